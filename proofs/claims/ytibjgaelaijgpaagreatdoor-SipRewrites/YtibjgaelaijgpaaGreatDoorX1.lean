/- Several texts in one. -/
import Derived.Test.YtibjgaelaijgpaaGreatDoorX2
import Derived.Test.YtibjgaelaijgpaaGreatDoorX4
import Derived.Deep.CutBlock
import Derived.Test.YtibjgaelaijgpaaGreatDoorX3
import Derived.Deep.Cut
/- The document's copied. -/
namespace Go.Proofs.YtibjgaelaijgpaaGreatDoor
open Go.RowKit Go.Shelf
set_option maxRecDepth 100000
set_option linter.unusedVariables false
set_option linter.unusedSimpArgs false

/-- All of a list appended onto one's own, the document's kind. -/
theorem appHR (w : World) (ty : TypeId) (base n₀ : Nat) (v : Value) (xs : List Hr) (sv : Value) (ys : List Hr) (hown : w.ownsRow base 45 2 v xs.length (hrs xs)) (hI : RdM n₀ w sv ys) (hbase : base ≤ w.heap.size) (hs : xs.length + ys.length ≤ 10000) :
    ∃ v' w', (Builtin.append_ #[32, 32] ty #[v, sv]).run Tryz.prog w = .ok v' w' ∧ w'.ownsRow base 45 2 v' (xs ++ ys).length (hrs (xs ++ ys)) ∧ w.grownBy w' v.ownBlock := by
  obtain ⟨i0, hi0, hz0, hz1, hz2⟩ := info_partsS info_hdrR
  rcases hI with ⟨a, cap, rfl, rfl, hcm, ha⟩ | ⟨b, off, cap, rfl, hne, hl, hm, hb, hc⟩
  · obtain ⟨av, cv, rfl, hv1, hv2⟩ := (ownR_rd hown).slice
    refine ⟨_, w, run_append_nothing w _ _ ty _ i0 Tryz.underlying32 hi0 av xs.length cv hv1 (.slice a 0 cap) ?_, by rw [List.append_nil]; exact hown, ⟨rfl, rfl, rfl, Nat.le_refl _, fun _ _ _ => rfl⟩⟩
    refine ⟨.inl ⟨_, Tryz.underlying32⟩, fun w' => ?_, ?_, ?_, by simp, by simp⟩ <;> cases a <;> simp [Builtin.lenOf, Builtin.firstCells, go_sem]
  · have hp : 0 < ys.length := List.length_pos_iff.2 hne
    obtain ⟨g, cap', w', hr, h2, h3, h4, h5⟩ := run_append_lies (P := Tryz.prog) w 32 ty base 45 i0 _ 2 32 Tryz.underlying32 hi0 hz0 hz1 hz2 rfl (by decide) v xs.length (hrs xs) hown ⟨b, off, none⟩ ys.length cap (hrs ys) (hrs_length ys) (fun j u hj => by
      have hlt := (List.getElem?_eq_some_iff.1 hj).1
      rw [hrs_length] at hlt
      rw [addr_addS]
      have h1 := hc (j / 2) (by omega) (j % 2) (Nat.mod_lt _ (by omega))
      rw [← hrs_at ys (j / 2) (j % 2) (by omega) (Nat.mod_lt _ (by omega)), show j / 2 * 2 + j % 2 = j from by omega, hj] at h1
      rw [← h1]
      congr 2
      omega) (hrs_one ys) hp (by unfold maxLen; omega) (by omega) hbase _ rfl
    exact ⟨_, w', hr, by rw [List.length_append, hrs_append]; exact h2, h3⟩

/-- A block below the base of a row that grows stays. -/
theorem grow_keep {W W' : World} {base : Nat} {e : TypeId} {size : Nat} {v : Value} {n : Nat} {xs : List Value} (h : W.ownsRow base e size v n xs) (hg : W.grownBy W' v.ownBlock) {i : Nat} {o : Obj} (ho : W.heap[i]? = some o) (hi : i < base) : W'.heap[i]? = some o := keep_row h hg ho (.inr hi)
theorem grow_below {W W' : World} {base : Nat} {e : TypeId} {size : Nat} {v : Value} {n : Nat} {xs : List Value} (h : W.ownsRow base e size v n xs) (hg : W.grownBy W' v.ownBlock) (hb : base ≤ W.heap.size) : Below base W W' :=
  ⟨hg.os, hg.tape, hg.output, hg.size, fun i hi => by
    cases hh : W.heap[i]? with
    | none => have := Array.getElem?_eq_none_iff.1 hh; omega
    | some o => exact keep_row h hg hh (.inr hi)⟩

set_option maxRecDepth 100000 in
set_option maxHeartbeats 8000000 in
theorem rcopied_any (st : ByteArray) (sv sb : Value) (hs : List Hr) (zb : List Int) (w : World) (hH : RdM w.heap.size w sv hs) (hB : Rd w.heap.size w sb zb) (hl : hs.length ≤ 5000) (hz : zb.length ≤ 140737488355328) :
    Calls Tryz.prog 13 #[.agg #[.string st, sv, sb]] w fun e w' => Later w w' ∧ ∃ vh vb, e = .returned (.agg #[.string st, vh, vb]) ∧ w'.ownsRow w.heap.size 45 2 vh hs.length (hrs hs) ∧ Ow w.heap.size w' vb zb := by
  obtain ⟨sa, scp, rfl, hsc1, hsc2⟩ := hH.slice
  obtain ⟨ba, bcp, rfl, hbc1, hbc2⟩ := hB.slice
  obtain ⟨iu, hiu, hu0, hu1, hu2⟩ := info_partsS info_u8
  have hb4 : Later w (((w.alloc (.cells #[.string st, .slice sa hs.length scp, .slice ba zb.length bcp] 34)).alloc (.cells #[.string ⟨#[]⟩, .slice none 0 0, .slice none 0 0] 34)).alloc (.cells #[.string st, .slice none 0 0, .slice none 0 0] 34)) := (((Below.refl _ _).alloc (Nat.le_refl _) _).alloc (by simp) _).alloc (by simp <;> omega) _
  have C0 := hide (show (((w.alloc (.cells #[.string st, .slice sa hs.length scp, .slice ba zb.length bcp] 34)).alloc (.cells #[.string ⟨#[]⟩, .slice none 0 0, .slice none 0 0] 34)).alloc (.cells #[.string st, .slice none 0 0, .slice none 0 0] 34)).heap[w.heap.size]? = some (.cells #[.string st, .slice sa hs.length scp, .slice ba zb.length bcp] 34 (0, 0)) from (Below.heap_alloc _ _ _ (by simp <;> omega)).trans ((Below.heap_alloc _ _ _ (by simp)).trans (heap_alloc_new w _)))
  have C1 : Hid ((((w.alloc (.cells #[.string st, .slice sa hs.length scp, .slice ba zb.length bcp] 34)).alloc (.cells #[.string ⟨#[]⟩, .slice none 0 0, .slice none 0 0] 34)).alloc (.cells #[.string st, .slice none 0 0, .slice none 0 0] 34)).heap[w.heap.size + 1]? = some (.cells #[.string ⟨#[]⟩, .slice none 0 0, .slice none 0 0] 34 (0, 0))) := by
    have := heap_alloc_new (w.alloc (.cells #[.string st, .slice sa hs.length scp, .slice ba zb.length bcp] 34)) (.cells #[.string ⟨#[]⟩, .slice none 0 0, .slice none 0 0] 34)
    rw [World.size_alloc] at this
    exact (Below.heap_alloc _ _ _ (by simp)).trans this
  have C2 : Hid ((((w.alloc (.cells #[.string st, .slice sa hs.length scp, .slice ba zb.length bcp] 34)).alloc (.cells #[.string ⟨#[]⟩, .slice none 0 0, .slice none 0 0] 34)).alloc (.cells #[.string st, .slice none 0 0, .slice none 0 0] 34)).heap[w.heap.size + 1 + 1]? = some (.cells #[.string st, .slice none 0 0, .slice none 0 0] 34 (0, 0))) := by
    have := heap_alloc_new ((w.alloc (.cells #[.string st, .slice sa hs.length scp, .slice ba zb.length bcp] 34)).alloc (.cells #[.string ⟨#[]⟩, .slice none 0 0, .slice none 0 0] 34)) (.cells #[.string st, .slice none 0 0, .slice none 0 0] 34)
    simp only [World.size_alloc] at this
    exact this
  have HS4 : Hid ((((w.alloc (.cells #[.string st, .slice sa hs.length scp, .slice ba zb.length bcp] 34)).alloc (.cells #[.string ⟨#[]⟩, .slice none 0 0, .slice none 0 0] 34)).alloc (.cells #[.string st, .slice none 0 0, .slice none 0 0] 34)).heap.size = w.heap.size + 1 + 1 + 1) := by (show _ = _); simp
  go_enter Tryz.func13, Tryz.ntmps13
  go_upto_region 2 with fail
  generalize ((w.alloc (.cells #[.string st, .slice sa hs.length scp, .slice ba zb.length bcp] 34)).alloc (.cells #[.string ⟨#[]⟩, .slice none 0 0, .slice none 0 0] 34)).alloc (.cells #[.string st, .slice none 0 0, .slice none 0 0] 34) = w4 at *
  have ho0 : w4.ownsRow (w.heap.size + 1 + 1 + 1) 45 2 (.slice none 0 0) ([] : List Hr).length (hrs []) := ⟨rfl, .inl ⟨rfl, rfl⟩⟩
  obtain ⟨v1, W1, hr1, hO1, hg1⟩ := appHR w4 32 (w.heap.size + 1 + 1 + 1) w.heap.size _ [] (.slice sa hs.length scp) hs ho0 (hH.below hb4) (by rw [HS4.out]; exact Nat.le_refl _) (by simp <;> omega)
  have D0 := hide (grow_keep ho0 hg1 C0.out (by omega))
  have D1 := hide (grow_keep ho0 hg1 C1.out (by omega))
  have D2 := hide (grow_keep ho0 hg1 C2.out (by omega))
  have L1 : Below w.heap.size w W1 := Below.trans hb4 ((grow_below ho0 hg1 (by rw [HS4.out]; exact Nat.le_refl _)).mono (by omega))
  have hsz1 : w.heap.size + 1 + 1 + 1 ≤ W1.heap.size := Nat.le_trans (by rw [HS4.out]; exact Nat.le_refl _) hg1.size
  rw [List.nil_append] at hO1
  obtain ⟨va, vc, rfl⟩ := owns_form hO1
  have HR1 := hide hr1
  have HO1 := hide hO1
  generalize hgc : w.heap.size = gc at C0 C1 C2 D0 D1 D2 HO1 hsz1 ⊢
  have k0 := block_cell C0.out
  have k2 := block_cell C2.out
  have e2 := block_cell D2.out
  have f2 := block_frozen D2.out
  clear hr1 hO1 hg1 ho0
  go_upto_region 3 with (at_builtin; refine wpList_appw rfl (.tmp 8) (.tmp 10) 32 rfl _ _ rfl rfl _ W1 HR1.out ?_)
  clear k0 k2 e2 f2 HR1
  have p2 := heap_set1 D2.out 1 (.slice va hs.length vc)
  have hbt : But (fun b => b = gc + 1 + 1) W1 (W1.setCell ⟨gc + 1 + 1, 1, none⟩ (.slice va hs.length vc)) := (But.refl (fun b => b = gc + 1 + 1) _).setCell (show _ = _ from rfl) _
  have HO2 := hide (own_but (base' := gc) HO1.out hbt D2.out (by decide) (by omega))
  change Code.wp _ _ _ _ (W1.setCell ⟨gc + 1 + 1, 1, none⟩ (.slice va hs.length vc))
  generalize W1.setCell ⟨gc + 1 + 1, 1, none⟩ (.slice va hs.length vc) = V1 at *
  simp only [List.setIfInBounds_toArray, List.set_cons_zero, List.set_cons_succ] at p2
  have E0 := hide ((hbt.block gc (by omega) (by omega)).trans D0.out)
  have E1 := hide ((hbt.block (gc + 1) (by omega) (by omega)).trans D1.out)
  have E2 := hide p2
  have L2 : Below w.heap.size w V1 := L1.trans (hbt.below L1.size (fun k hk e => by omega))
  have hsz2 : gc + 1 + 1 + 1 ≤ V1.heap.size := Nat.le_trans hsz1 hbt.size
  clear D0 D1 D2 HO1 p2 hbt L1 hsz1 C0 C1 C2
  have ho3 : V1.ownsRow V1.heap.size 5 1 (.slice none 0 0) ([] : List Int).length (([] : List Int).map (Value.int .u8)) := ⟨rfl, .inl ⟨rfl, rfl⟩⟩
  obtain ⟨v3, W3, hr3, hO3, hg3⟩ := run_app (P := Tryz.prog) V1 23 23 5 V1.heap.size iu Tryz.underlying23 hiu hu0 hu1 hu2 _ [] ho3 w.heap.size (.slice ba zb.length bcp) zb (hB.below L2) (by simpa using hz) (Nat.le_refl _)
  have D0 := hide (grow_keep ho3 hg3 E0.out (by omega))
  have D1 := hide (grow_keep ho3 hg3 E1.out (by omega))
  have D2 := hide (grow_keep ho3 hg3 E2.out (by omega))
  have HO3 := hide (keep_own ho3 hg3 (by decide) HO2.out)
  have L3 : Below w.heap.size w W3 := Below.trans L2 ((grow_below ho3 hg3 (Nat.le_refl _)).mono (by omega))
  rw [List.nil_append] at hO3
  obtain ⟨xa, xc, rfl⟩ := owns_form hO3
  have HB3 := hide (owns_mono (base' := gc) hO3 (by omega))
  have hsz3 : gc + 1 + 1 + 1 ≤ W3.heap.size := Nat.le_trans hsz2 hg3.size
  have HR3 := hide hr3
  have k0 := block_cell E0.out
  have k2 := block_cell E2.out
  have e2 := block_cell D2.out
  have f2 := block_frozen D2.out
  clear hr3 hO3 hg3 ho3 HO2
  go_upto_region 4 with (at_builtin; refine wpList_appw rfl (.tmp 14) (.tmp 16) 23 rfl _ _ rfl rfl _ W3 HR3.out ?_)
  clear k0 k2 e2 f2 HR3 E0 E1 E2
  have p4 := heap_set1 D2.out 2 (.slice xa zb.length xc)
  have hbt : But (fun b => b = gc + 1 + 1) W3 (W3.setCell ⟨gc + 1 + 1, 2, none⟩ (.slice xa zb.length xc)) := (But.refl (fun b => b = gc + 1 + 1) _).setCell (show _ = _ from rfl) _
  have HO4 := hide (own_but (base' := gc) HO3.out hbt D2.out (by decide) (by omega))
  have HB4 := hide (own_but (base' := gc) HB3.out hbt D2.out (by decide) (by omega))
  change Code.wp _ _ _ _ (W3.setCell ⟨gc + 1 + 1, 2, none⟩ (.slice xa zb.length xc))
  generalize W3.setCell ⟨gc + 1 + 1, 2, none⟩ (.slice xa zb.length xc) = V4 at *
  simp only [List.setIfInBounds_toArray, List.set_cons_zero, List.set_cons_succ] at p4
  have E1 := (hbt.block (gc + 1) (by omega) (by omega)).trans D1.out
  have L4 : Below w.heap.size w V4 := L3.trans (hbt.below L3.size (fun k hk e => by omega))
  have hsz4 : gc + 1 + 1 + 1 ≤ V4.heap.size := Nat.le_trans hsz3 hbt.size
  clear D0 D1 D2 hbt HO3 HB3 L3 hsz3 L2 hsz2
  have k4 := block_cell p4
  have k1 := block_cell E1
  have f1 := block_frozen E1
  go_wp2_with fail
  generalize hV : (((V4.setCell ⟨gc + 1, 0, none⟩ _).setCell ⟨gc + 1, 1, none⟩ _).setCell ⟨gc + 1, 2, none⟩ _) = V8
  have hV9 : V8 = putRow V4 (gc + 1) 0 [.string st, .slice va hs.length vc, .slice xa zb.length xc] := hV.symm
  have hb8 : But (fun b => b = gc + 1) V4 V8 := by rw [hV9]; exact putRow_but (E := fun b => b = gc + 1) (n := gc + 1) rfl _ _ _ _ (But.refl _ _)
  have p8 := putRow_all [.string st, .slice va hs.length vc, .slice xa zb.length xc] E1 rfl
  rw [← hV9] at p8
  clear hV hV9
  have P8 := block_cell p8
  have hw8 : Later w V8 := Below.trans L4 (hb8.below L4.size (fun k h e => by omega))
  have hr8 := own_but (base' := gc) HO4.out hb8 E1 (by decide) (Nat.le_refl _)
  have hb9 := own_but (base' := gc) HB4.out hb8 E1 (by decide) (Nat.le_refl _)
  exact bodyPost_ret (v := .agg #[.string st, .slice va hs.length vc, .slice xa zb.length xc]) (by simp [results, Tryz.results13, go_sem, P8]) rfl ⟨hw8, _, _, rfl, (by rw [hgc]; exact hr8), (by rw [hgc]; exact Ow.of_row hb9)⟩
end Go.Proofs.YtibjgaelaijgpaaGreatDoor

/- The document's Rewrite. -/
namespace Go.Proofs.YtibjgaelaijgpaaGreatDoor
open Go.RowKit Go.Shelf
set_option maxRecDepth 100000
set_option linter.unusedVariables false
set_option linter.unusedSimpArgs false

theorem fnI_yes {s t : ByteArray} (h : cutF s t = true) : fnI s t = ((cutA s t).size : Int) := by unfold fnI; rw [if_pos h]
theorem fnI_no {s t : ByteArray} (h : cutF s t = false) : fnI s t = -1 := by unfold fnI; rw [if_neg (by rw [h]; simp)]
theorem mgH_sizes (c : Cg) (hc : c.wf) (n : Nat) (hn : n < 10 ^ 20) {hs : List Hr} (h : ∀ x ∈ hs, x.1.size ≤ 4096 ∧ x.2.size ≤ 4096) : ∀ x ∈ mgH c n hs, x.1.size ≤ 20000 ∧ x.2.size ≤ 20000 := fun x hx => by
  obtain ⟨y, hy, rfl⟩ := List.mem_map.1 hx
  have h1 := h y hy
  have h2 := vuB_size c hc n hn y
  exact ⟨by simp only; omega, by simp only; omega⟩

set_option maxRecDepth 100000 in
set_option maxHeartbeats 16000000 in
theorem rrewrite14_any (h t : Int) (p q : Nat) (ml : List (Int × Int)) (mv : Value) (st : ByteArray) (sv sb : Value) (hs : List Hr) (zb : List Int) (w : World) (hh : 0 ≤ h ∧ h ≤ 4294967295) (ht : 0 ≤ t ∧ t ≤ 4294967295) (hp : p ≤ 65535) (hq : q ≤ 65535) (hc : (cgOf h t p q ml).wf) (hI : RdP2 w.heap.size w mv ml) (hH : RdM w.heap.size w sv hs) (hB : Rd w.heap.size w sb zb) (hy : Mt.By zb) (hzl : zb.length ≤ 140737488355328) (hhl : hs.length ≤ 5000) (hz : szM st hs zb.length ≤ 9000000000000000000) (hzs : st.size ≤ 140737488355328 ∧ ∀ h ∈ hs, h.1.size ≤ 140737488355328 ∧ h.2.size ≤ 140737488355328) :
    Calls Tryz.prog 7 #[.agg #[.string st, sv, sb], .int .u32 h, .int .u32 t, .int .u16 (p : Int), .int .u16 (q : Int), mv] w fun e w' => Later w w' ∧ ∃ vh vb, e = .returned (.agg #[.string st, vh, vb]) ∧ w'.ownsRow w.heap.size 45 2 vh (rwHs (cgOf h t p q ml) st hs zb).length (hrs (rwHs (cgOf h t p q ml) st hs zb)) ∧ Ow w.heap.size w' vb (rwZb (cgOf h t p q ml) st hs zb) := by
  obtain ⟨sa, scp, rfl, hsc1, hsc2⟩ := hH.slice
  obtain ⟨ba, bcp, rfl, hbc1, hbc2⟩ := hB.slice
  obtain ⟨ma, mc, rfl, hmc1, hmc2⟩ := hI.slice
  have hb4 : Later w ((w.alloc (.cells #[.string st, .slice sa hs.length scp, .slice ba zb.length bcp] 34)).alloc (.cells #[.string ⟨#[]⟩, .slice none 0 0, .slice none 0 0] 34)) := ((Below.refl _ _).alloc (Nat.le_refl _) _).alloc (by simp) _
  have C0 := hide (show ((w.alloc (.cells #[.string st, .slice sa hs.length scp, .slice ba zb.length bcp] 34)).alloc (.cells #[.string ⟨#[]⟩, .slice none 0 0, .slice none 0 0] 34)).heap[w.heap.size]? = some (.cells #[.string st, .slice sa hs.length scp, .slice ba zb.length bcp] 34 (0, 0)) from (Below.heap_alloc _ _ _ (by simp)).trans (heap_alloc_new w _))
  have C1 : Hid (((w.alloc (.cells #[.string st, .slice sa hs.length scp, .slice ba zb.length bcp] 34)).alloc (.cells #[.string ⟨#[]⟩, .slice none 0 0, .slice none 0 0] 34)).heap[w.heap.size + 1]? = some (.cells #[.string ⟨#[]⟩, .slice none 0 0, .slice none 0 0] 34 (0, 0))) := by
    have := heap_alloc_new (w.alloc (.cells #[.string st, .slice sa hs.length scp, .slice ba zb.length bcp] 34)) (.cells #[.string ⟨#[]⟩, .slice none 0 0, .slice none 0 0] 34)
    rw [World.size_alloc] at this
    exact this
  have HS4 : Hid (((w.alloc (.cells #[.string st, .slice sa hs.length scp, .slice ba zb.length bcp] 34)).alloc (.cells #[.string ⟨#[]⟩, .slice none 0 0, .slice none 0 0] 34)).heap.size = w.heap.size + 1 + 1) := by (show _ = _); simp
  generalize hcg : cgOf h t p q ml = c at *
  have hc1 : c.host = adB h := by rw [← hcg]; rfl
  have hc2 : c.is = adB t := by rw [← hcg]; rfl
  have hc3 : c.port = (p : Int) := by rw [← hcg]; rfl
  have hc4 : c.np = (q : Int) := by rw [← hcg]; rfl
  have hc5 : c.media = ml := by rw [← hcg]; rfl
  rw [← hc5] at hI hmc1 ⊢
  have HC := hide hc
  have HBD := hide (fun (hz' : zb.length ≤ 4096) W (l : Later w W) => rbody14_any c h t hh ht hc1 hc2 hc (.slice ma c.media.length mc) (.slice ba zb.length bcp) zb W (hI.later l) (hB.later l) hy hz')
  have HPL := hide (fun (s : ByteArray) (a : Nat) (ends : ByteArray) (hen : ends = enV ∨ ends = enK) (hs1 : s.size ≤ 4096) (ha : a ≤ s.size) W => rplace_any c s a ends hen h t hh ht p q hp hq hc1 hc2 hc3 hc4 W (by omega) ha)
  clear hc1 hc2 hc3 hc4 hc5 hcg hc
  have HRH : Hid (rwHs c st hs zb = if rwOk c st hs zb = true then mgH c (bdB c (strOfNums zb)).size hs else hs) := rfl
  have HRZ : Hid (rwZb c st hs zb = if rwOk c st hs zb = true then nmsB (bdB c (strOfNums zb)) else zb) := rfl
  have HOK : Hid (rwOk c st hs zb = (rgB st hs zb.length && rgB st (mgH c (bdB c (strOfNums zb)).size hs) (bdB c (strOfNums zb)).size)) := rfl
  have HNS : Hid (zb.length ≤ 4096 → (bdB c (strOfNums zb)).size ≤ 60000000) := fun hz' => bdB_size c HC.out (strOfNums zb) (by rw [strOfNums_size]; exact hz')
  generalize rwHs c st hs zb = rh at *
  generalize rwZb c st hs zb = rz at *
  generalize rwOk c st hs zb = ok at *
  generalize bdB c (strOfNums zb) = nb at *
  have HRG := hide (fun W (l : Later w W) => rright14_any st hs (.slice sa hs.length scp) (.slice ba zb.length bcp) zb W (hH.later l) (hB.later l) hz hzs)
  have HCP := hide (fun W (l : Later w W) => rcopied_any st (.slice sa hs.length scp) (.slice ba zb.length bcp) hs zb W (hH.later l) (hB.later l) hhl hzl)
  have HF : Hid (rgB st hs zb.length = true → hs.length ≤ 64 ∧ zb.length ≤ 4096 ∧ st.size ≤ 4096 ∧ hsz hs ≤ 4096 ∧ (∀ x ∈ hs, x.1.size ≤ 4096 ∧ x.2.size ≤ 4096)) := fun h => rgB_facts h
  generalize rgB st hs zb.length = b1 at *
  go_enter Tryz.func7, Tryz.ntmps7
  go_upto_region 1 with fail
  generalize (w.alloc (.cells #[.string st, .slice sa hs.length scp, .slice ba zb.length bcp] 34)).alloc (.cells #[.string ⟨#[]⟩, .slice none 0 0, .slice none 0 0] 34) = w4 at *
  generalize hgc : w.heap.size = gc at C0 C1 HS4 ⊢
  have k0 := block_cell C0.out
  go_wp2_with fail
  refine (HRG.out w4 hb4).mono ?_
  rintro e w5 ⟨rfl, l5⟩
  clear k0 HRG
  have L5 := Later.trans hb4 l5
  have hs5 : gc + 1 + 1 ≤ w5.heap.size := by rw [← HS4.out]; exact l5.size
  have D0 := hide (later_keep l5 C0.out)
  have D1 := hide (later_keep l5 C1.out)
  clear C0 C1 HS4 l5
  cases b1 with
  | false =>
    have hok : ok = false := HOK.out
    replace HRH : Hid (rh = hs) := by have := HRH.out; rw [hok] at this; exact this
    replace HRZ : Hid (rz = zb) := by have := HRZ.out; rw [hok] at this; exact this
    clear hok HOK
    have kM := block_cell D0.out
    go_wp2_with fail
    refine (HCP.out w5 L5).mono ?_
    rintro e W9 ⟨l9, vh, vb, rfl, hr9, hO9⟩
    obtain ⟨va, vc, rfl⟩ := owns_form hr9
    obtain ⟨xa, xc, rfl, _, _⟩ := hO9.slice
    clear kM
    have HA := later_keep l9 D1.out
    have kA := block_cell HA
    have fA := block_frozen HA
    have LL := L5.trans l9
    go_wp2_with fail
    generalize hV : (((W9.setCell ⟨gc + 1, 0, none⟩ _).setCell ⟨gc + 1, 1, none⟩ _).setCell ⟨gc + 1, 2, none⟩ _) = V8
    have hV9 : V8 = putRow W9 (gc + 1) 0 [.string st, .slice va hs.length vc, .slice xa zb.length xc] := hV.symm
    have hb8 : But (fun b => b = gc + 1) W9 V8 := by rw [hV9]; exact putRow_but (E := fun b => b = gc + 1) (n := gc + 1) rfl _ _ _ _ (But.refl _ _)
    have p8 := putRow_all [.string st, .slice va hs.length vc, .slice xa zb.length xc] HA rfl
    rw [← hV9] at p8
    clear hV hV9
    have P8 := block_cell p8
    have hw8 : Later w V8 := Below.trans LL (hb8.below LL.size (fun k h e => by omega))
    have hr8 := own_but (base' := w.heap.size) hr9 hb8 HA (by decide) L5.size
    have hO8 : Ow w.heap.size V8 (.slice xa zb.length xc) zb := (hO9.but hb8 (fun b h e => by omega)).mono L5.size
    exact bodyPost_ret (v := .agg #[.string st, .slice va hs.length vc, .slice xa zb.length xc]) (by simp [results, Tryz.results7, go_sem, P8]) rfl ⟨hw8, _, _, rfl, (by rw [HRH.out]; exact hr8), (by rw [HRZ.out]; exact hO8)⟩
  | true =>
    obtain ⟨hf1, hf2, hf3, hf4, hf5⟩ := HF.out rfl
    have HBD2 := hide (HBD.out hf2)
    have hnbs := HNS.out hf2
    clear HBD HF HNS
    go_upto_region 3 with fail
    go_cut [13] (fun v wx => ∃ gn va vc, v = .pointer (some ⟨gn, 0, none⟩) ∧ w5.heap.size ≤ gn ∧ Hid (Later w5 wx) ∧ Hid (wx.heap[gn]? = some (.cells #[.string st, .slice none 0 0, .slice va nb.size vc] 34 (0, 0))) ∧ Hid (wx.ownsRow gc 5 1 (.slice va nb.size vc) nb.size (nvs nb)))
    case first =>
      refine wp_calmS ?_
      refine anyU_begin (R1 := Later) (R2 := fun _ _ => True) (D := [10]) 11 rfl (by kernel_rfl) ?_
      have ld : Later w5 w5.drew := Later.drew w5
      generalize w5.drew = Wd at *
      have LWd : Later w Wd := Later.trans L5 ld
      have hsd := ld.size
      have qM : ∀ v1, Later Wd v1 → ∀ j, v1.cell? ⟨gc, j, none⟩ = #[.string st, .slice sa hs.length scp, .slice ba zb.length bcp][j]? := fun v1 hv => block_cell (later_keep (ld.trans hv) D0.out)
      refine anyU_val Later.pre 0 [1, 8, 10] rfl (by rfl) (by rfl) (by kernel_rfl) (by kernel_rfl) (by kernel_rfl) (by kernel_rfl) (by kernel_rfl) (fun _ _ _ _ h => by cases h.1) (by rfl) ?_; apply Exists.intro; refine ⟨fun v1 hv1 => ?_, ?_⟩; (· (go_simp; rfl)); simp only [Act.put, List.setIfInBounds_toArray, List.set_cons_zero, List.set_cons_succ]
      refine anyU_val Later.pre 1 [8, 10] rfl (by rfl) (by rfl) (by kernel_rfl) (by kernel_rfl) (by kernel_rfl) (by kernel_rfl) (by kernel_rfl) (fun _ _ _ _ h => by cases h.1) (by rfl) ?_; apply Exists.intro; refine ⟨fun v1 hv1 => ?_, ?_⟩; (· (go_simp; rfl)); simp only [Act.put, List.setIfInBounds_toArray, List.set_cons_zero, List.set_cons_succ]
      refine anyU_val Later.pre 2 [3, 7, 8, 10] rfl (by rfl) (by rfl) (by kernel_rfl) (by kernel_rfl) (by kernel_rfl) (by kernel_rfl) (by kernel_rfl) (fun _ _ _ _ h => by cases h.1) (by rfl) ?_; apply Exists.intro; refine ⟨fun v1 hv1 => ?_, ?_⟩; (· (go_simp; rfl)); simp only [Act.put, List.setIfInBounds_toArray, List.set_cons_zero, List.set_cons_succ]
      refine anyU_val Later.pre 3 [7, 8, 10] rfl (by rfl) (by rfl) (by kernel_rfl) (by kernel_rfl) (by kernel_rfl) (by kernel_rfl) (by kernel_rfl) (fun _ _ _ _ h => by cases h.1) (by rfl) ?_; apply Exists.intro; refine ⟨fun v1 hv1 => ?_, ?_⟩; (· (go_simp; rfl)); simp only [Act.put, List.setIfInBounds_toArray, List.set_cons_zero, List.set_cons_succ]
      refine anyU_val Later.pre 4 [7, 8, 10] rfl (by rfl) (by rfl) (by kernel_rfl) (by kernel_rfl) (by kernel_rfl) (by kernel_rfl) (by kernel_rfl) (fun _ _ _ _ h => by cases h.1) (by rfl) ?_; apply Exists.intro; refine ⟨fun v1 hv1 => ?_, ?_⟩; (· (go_simp; rfl)); simp only [Act.put, List.setIfInBounds_toArray, List.set_cons_zero, List.set_cons_succ]
      refine anyU_val Later.pre 5 [7, 8, 10] rfl (by rfl) (by rfl) (by kernel_rfl) (by kernel_rfl) (by kernel_rfl) (by kernel_rfl) (by kernel_rfl) (fun _ _ _ _ h => by cases h.1) (by rfl) ?_; apply Exists.intro; refine ⟨fun v1 hv1 => ?_, ?_⟩; (· (go_simp; rfl)); simp only [Act.put, List.setIfInBounds_toArray, List.set_cons_zero, List.set_cons_succ]
      refine anyU_val Later.pre 6 [7, 8, 10] rfl (by rfl) (by rfl) (by kernel_rfl) (by kernel_rfl) (by kernel_rfl) (by kernel_rfl) (by kernel_rfl) (fun _ _ _ _ h => by cases h.1) (by rfl) ?_; apply Exists.intro; refine ⟨fun v1 hv1 => ?_, ?_⟩; (· (go_simp; rfl)); simp only [Act.put, List.setIfInBounds_toArray, List.set_cons_zero, List.set_cons_succ]
      clear qM
      refine anyU_two 7 9 rfl rfl (by kernel_rfl) (by rfl) (by rfl) ?ca ?al
      case ca =>
        refine wp_enter 14 #[.slice ba zb.length bcp, .int .u32 h, .int .u32 t, .slice ma c.media.length mc] (by go_simp) ?_
        refine (HBD2.out Wd LWd).mono ?_
        rintro e W1 ⟨l1, v, rfl, hrow⟩
        obtain ⟨va, vc, rfl⟩ := owns_form hrow
        refine ⟨Rj_out (by rfl) l1, ?_⟩
        simp only [Act.put, List.setIfInBounds_toArray, List.set_cons_zero, List.set_cons_succ]
        refine anyU_val Later.pre 8 [10] rfl (by rfl) (by rfl) (by kernel_rfl) (by kernel_rfl) (by kernel_rfl) (by kernel_rfl) (by kernel_rfl) (fun _ _ _ _ h => by cases h.1) (by rfl) ?_; apply Exists.intro; refine ⟨fun v1 hv1 => ?_, ?_⟩; (· (go_simp; rfl)); simp only [Act.put, List.setIfInBounds_toArray, List.set_cons_zero, List.set_cons_succ]
        refine anyU_one 9 rfl (by kernel_rfl) (by rfl) ?_
        have la := later_allocR W1 (.cells #[.string ⟨#[]⟩, .slice none 0 0, .slice none 0 0] 34)
        have HA := heap_alloc_new W1 (.cells #[.string ⟨#[]⟩, .slice none 0 0, .slice none 0 0] 34)
        unfold Oper.wp
        go_simp
        refine ⟨Rj_out (by rfl) la, ?_⟩
        have hsg : w5.heap.size ≤ W1.heap.size := (ld.trans l1).size
        have LL := ld.trans (l1.trans la)
        change wpAnyU _ _ _ _ _ _ _ _ _ _ (W1.alloc (.cells #[.string ⟨#[]⟩, .slice none 0 0, .slice none 0 0] 34))
        generalize W1.alloc (.cells #[.string ⟨#[]⟩, .slice none 0 0, .slice none 0 0] 34) = W5 at *
        generalize W1.heap.size = gn at *
        have hrow5 := ownsS_ct hrow (CTs.of la)
        have kA := block_cell HA; have fA := block_frozen HA; refine anyU_one 10 rfl (by kernel_rfl) (by rfl) ?_; unfold Oper.wp; go_simp; refine ⟨Rj_in (by rfl) trivial, ?_⟩; clear kA fA; generalize hV : (((W5.setCell ⟨gn, 0, none⟩ _).setCell ⟨gn, 1, none⟩ _).setCell ⟨gn, 2, none⟩ _) = V8; have hV9 : V8 = putRow W5 gn 0 [.string st, .slice none 0 0, .slice va nb.size vc] := hV.symm; have hb8 : But (fun b => b = gn) W5 V8 := (by rw [hV9]; exact putRow_but (E := fun b => b = gn) (n := gn) rfl _ _ _ _ (But.refl _ _)); have p8 := putRow_all [.string st, .slice none 0 0, .slice va nb.size vc] HA rfl; rw [← hV9] at p8; clear hV hV9; refine anyU_done (by kernel_rfl) ?_; refine ⟨rfl, ?_⟩; have BB := hide (Below.trans LL (hb8.below LL.size (fun k h e => by omega))); have OO := hide (own_but (base' := gc) hrow5 hb8 HA (by decide) (by omega)); have PP := hide p8
        go_wp2_with fail
        go_meet
        case rel => exact ⟨gn, va, vc, rfl, hsg, BB, PP, OO⟩
      case al =>
        have la := later_allocR Wd (.cells #[.string ⟨#[]⟩, .slice none 0 0, .slice none 0 0] 34)
        have HA0 := heap_alloc_new Wd (.cells #[.string ⟨#[]⟩, .slice none 0 0, .slice none 0 0] 34)
        unfold Oper.wp
        go_simp
        refine ⟨Rj_out (by rfl) la, ?_⟩
        have hsg : w5.heap.size ≤ Wd.heap.size := ld.size
        change wpAnyU _ _ _ _ _ _ _ _ _ _ (Wd.alloc (.cells #[.string ⟨#[]⟩, .slice none 0 0, .slice none 0 0] 34))
        have hgw : Wd.heap.size ≤ (Wd.alloc (.cells #[.string ⟨#[]⟩, .slice none 0 0, .slice none 0 0] 34)).heap.size := la.size
        generalize Wd.alloc (.cells #[.string ⟨#[]⟩, .slice none 0 0, .slice none 0 0] 34) = W3 at *
        generalize hgn : Wd.heap.size = gn at *
        have LW3 : Later w W3 := LWd.trans la
        refine anyU_one 7 rfl (by kernel_rfl) (by rfl) ?_
        refine wp_enter 14 #[.slice ba zb.length bcp, .int .u32 h, .int .u32 t, .slice ma c.media.length mc] (by go_simp) ?_
        refine (HBD2.out W3 LW3).mono ?_
        rintro e W5 ⟨l1, v, rfl, hrow5⟩
        obtain ⟨va, vc, rfl⟩ := owns_form hrow5
        refine ⟨Rj_out (by rfl) l1, ?_⟩
        simp only [Act.put, List.setIfInBounds_toArray, List.set_cons_zero, List.set_cons_succ]
        refine anyU_val Later.pre 8 [10] rfl (by rfl) (by rfl) (by kernel_rfl) (by kernel_rfl) (by kernel_rfl) (by kernel_rfl) (by kernel_rfl) (fun _ _ _ _ h => by cases h.1) (by rfl) ?_; apply Exists.intro; refine ⟨fun v1 hv1 => ?_, ?_⟩; (· (go_simp; rfl)); simp only [Act.put, List.setIfInBounds_toArray, List.set_cons_zero, List.set_cons_succ]
        have HA := later_keep l1 HA0
        have LL := ld.trans (la.trans l1)
        have kA := block_cell HA; have fA := block_frozen HA; refine anyU_one 10 rfl (by kernel_rfl) (by rfl) ?_; unfold Oper.wp; go_simp; refine ⟨Rj_in (by rfl) trivial, ?_⟩; clear kA fA; generalize hV : (((W5.setCell ⟨gn, 0, none⟩ _).setCell ⟨gn, 1, none⟩ _).setCell ⟨gn, 2, none⟩ _) = V8; have hV9 : V8 = putRow W5 gn 0 [.string st, .slice none 0 0, .slice va nb.size vc] := hV.symm; have hb8 : But (fun b => b = gn) W5 V8 := (by rw [hV9]; exact putRow_but (E := fun b => b = gn) (n := gn) rfl _ _ _ _ (But.refl _ _)); have p8 := putRow_all [.string st, .slice none 0 0, .slice va nb.size vc] HA rfl; rw [← hV9] at p8; clear hV hV9; refine anyU_done (by kernel_rfl) ?_; refine ⟨rfl, ?_⟩; have BB := hide (Below.trans LL (hb8.below LL.size (fun k h e => by omega))); have OO := hide (own_but (base' := gc) hrow5 hb8 HA (by decide) (by omega)); have PP := hide p8
        go_wp2_with fail
        go_meet
        case rel => exact ⟨gn, va, vc, rfl, hsg, BB, PP, OO⟩
    case rest =>
      obtain ⟨gn, va, vc, rfl, hgn, HL6, EN0, EB0⟩ := hcut
      have E00 := hide (later_keep HL6.out D0.out)
      have E10 := hide (later_keep HL6.out D1.out)
      have L6 : Below w.heap.size w wc := L5.trans HL6.out
      clear D0 D1 HBD2 HL6
      generalize hmh : mgH c nb.size hs = mh at *
      have HMH := hide hmh
      clear hmh
      go_upto_region 5 with fail
      go_loopw [14] (fun iv wr => ∃ (k : Nat) (vh : Value), k ≤ hs.length ∧ iv = .int .i64 (k : Int) ∧ Below w.heap.size w wr ∧ gn < wr.heap.size ∧ Hid (wr.heap[gc]? = some (.cells #[.string st, .slice sa hs.length scp, .slice ba zb.length bcp] 34 (0, 0))) ∧ Hid (wr.heap[gc + 1]? = some (.cells #[.string ⟨#[]⟩, .slice none 0 0, .slice none 0 0] 34 (0, 0))) ∧ Hid (wr.heap[gn]? = some (.cells #[.string st, vh, .slice va nb.size vc] 34 (0, 0))) ∧ Hid (wr.ownsRow gc 5 1 (.slice va nb.size vc) nb.size (nvs nb)) ∧ Hid (wr.ownsRow gc 45 2 vh k (hrs (mgH c nb.size (hs.take k))))) (fun iv _ => hs.length - (intOf iv).toNat)
      case atStart => exact ⟨0, .slice none 0 0, by omega, rfl, L6, (Array.getElem?_eq_some_iff.1 EN0.out).1, E00, E10, EN0, EB0, hide ⟨rfl, .inl ⟨rfl, rfl⟩⟩⟩
      case round =>
        clear E00 E10 EN0 EB0 L6
        obtain ⟨k, vh, hk, rfl, M1, hgnr, E0, E1, EN, EB, EH⟩ := hrel
        obtain ⟨ha, hcp, rfl⟩ := owns_form EH.out
        by_cases hlt : k < hs.length
        case neg =>
          have hnl : ¬ (k : Int) < (hs.length : Int) := by omega
          have hkk : k = hs.length := by omega
          have HH9 : Hid (wr.ownsRow gc 45 2 (.slice ha k hcp) mh.length (hrs mh)) := by
            have := EH.out
            rw [hkk, List.take_length, HMH.out] at this
            rw [hkk, ← HMH.out]
            have hml : (mgH c nb.size hs).length = hs.length := by unfold mgH; simp
            rw [hml, HMH.out]
            exact this
          have hml : mh.length = hs.length := by rw [← HMH.out]; unfold mgH; simp
          have hms : ∀ x ∈ mh, x.1.size ≤ 20000 ∧ x.2.size ≤ 20000 := by rw [← HMH.out]; exact mgH_sizes c HC.out nb.size (by omega) hf5
          have hmz : hsz mh ≤ 3 * hsz hs + 2020 * hs.length := by rw [← HMH.out]; exact mgH_hsz c HC.out nb.size (by omega) hs
          clear hkk EH
          have HR10 := hide (ownR_rd HH9.out)
          have HB10 := hide (Ow.of_row (zs := nmsB nb) EB.out).rd
          have HR2 := hide (rright14_any st mh (.slice ha k hcp) (.slice va nb.size vc) (nmsB nb) wr HR10.out HB10.out (by unfold szM; rw [nmsB_len]; omega) ⟨by omega, fun x hx => by have := hms x hx; omega⟩)
          rw [nmsB_len] at HR2
          clear HR10 HB10 hms hmz hml
          have k2 := block_cell EN.out
          have k0 := block_cell E0.out
          go_wp2_with fail
          refine HR2.out.mono ?_
          rintro e w11 ⟨rfl, l11⟩
          clear k2 k0 HR2
          have L11 : Later w w11 := Below.trans M1 (l11.mono M1.size)
          cases hr2 : rgB st mh nb.size with
          | true =>
            have hok : ok = true := by rw [HOK.out, hr2]; rfl
            replace HRH : Hid (rh = mh) := by have := HRH.out; rw [hok] at this; exact this
            replace HRZ : Hid (rz = nmsB nb) := by have := HRZ.out; rw [hok] at this; exact this
            clear hok hr2 HOK
            have hr11 := hide (ownsS_ct HH9.out (CTs.of l11))
            have hb11 := hide (ownsS_ct EB.out (CTs.of l11))
            have kN := block_cell (later_keep l11 EN.out)
            have HA := later_keep l11 E1.out
            have kA := block_cell HA
            have fA := block_frozen HA
            go_wp2_with fail
            generalize hV : (((w11.setCell ⟨gc + 1, 0, none⟩ _).setCell ⟨gc + 1, 1, none⟩ _).setCell ⟨gc + 1, 2, none⟩ _) = V8
            have hV9 : V8 = putRow w11 (gc + 1) 0 [.string st, .slice ha k hcp, .slice va nb.size vc] := hV.symm
            have hb8 : But (fun b => b = gc + 1) w11 V8 := by rw [hV9]; exact putRow_but (E := fun b => b = gc + 1) (n := gc + 1) rfl _ _ _ _ (But.refl _ _)
            have p8 := putRow_all [.string st, .slice ha k hcp, .slice va nb.size vc] HA rfl
            rw [← hV9] at p8
            clear hV hV9
            have P8 := block_cell p8
            have hw8 : Later w V8 := Below.trans L11 (hb8.below L11.size (fun k h e => by omega))
            have hr8 := own_but (base' := gc) hr11.out hb8 HA (by decide) (Nat.le_refl _)
            have hb9 := own_but (base' := gc) hb11.out hb8 HA (by decide) (Nat.le_refl _)
            exact bodyPost_ret (v := .agg #[.string st, .slice ha k hcp, .slice va nb.size vc]) (by simp [results, Tryz.results7, go_sem, P8]) rfl ⟨hw8, _, _, rfl, (by rw [HRH.out, hgc]; exact hr8), (by rw [HRZ.out, hgc]; exact Ow.of_row hb9)⟩
          | false =>
            have hok : ok = false := by rw [HOK.out, hr2]; rfl
            replace HRH : Hid (rh = hs) := by have := HRH.out; rw [hok] at this; exact this
            replace HRZ : Hid (rz = zb) := by have := HRZ.out; rw [hok] at this; exact this
            clear hok hr2 HOK
            have kM := block_cell (later_keep l11 E0.out)
            go_wp2_with fail
            refine (HCP.out w11 L11).mono ?_
            rintro e W9 ⟨l9, vh, vb, rfl, hr9, hO9⟩
            obtain ⟨vha, vhc, rfl⟩ := owns_form hr9
            obtain ⟨xa, xc, rfl, _, _⟩ := hO9.slice
            clear kM
            have HA := later_keep (l11.trans l9) E1.out
            have kA := block_cell HA
            have fA := block_frozen HA
            have LL := L11.trans l9
            have hg11 := l11.size
            go_wp2_with fail
            generalize hV : (((W9.setCell ⟨gc + 1, 0, none⟩ _).setCell ⟨gc + 1, 1, none⟩ _).setCell ⟨gc + 1, 2, none⟩ _) = V8
            have hV9 : V8 = putRow W9 (gc + 1) 0 [.string st, .slice vha hs.length vhc, .slice xa zb.length xc] := hV.symm
            have hb8 : But (fun b => b = gc + 1) W9 V8 := by rw [hV9]; exact putRow_but (E := fun b => b = gc + 1) (n := gc + 1) rfl _ _ _ _ (But.refl _ _)
            have p8 := putRow_all [.string st, .slice vha hs.length vhc, .slice xa zb.length xc] HA rfl
            rw [← hV9] at p8
            clear hV hV9
            have P8 := block_cell p8
            have hw8 : Later w V8 := Below.trans LL (hb8.below LL.size (fun k h e => by omega))
            have hr8 := own_but (base' := w.heap.size) hr9 hb8 HA (by decide) L11.size
            have hO8 : Ow w.heap.size V8 (.slice xa zb.length xc) zb := (hO9.but hb8 (fun b h e => by omega)).mono L11.size
            exact bodyPost_ret (v := .agg #[.string st, .slice vha hs.length vhc, .slice xa zb.length xc]) (by simp [results, Tryz.results7, go_sem, P8]) rfl ⟨hw8, _, _, rfl, (by rw [HRH.out]; exact hr8), (by rw [HRZ.out]; exact hO8)⟩
        have hlt' : (k : Int) < (hs.length : Int) := by omega
        obtain ⟨b, off, cp, e, _, _, hbn, hcs⟩ := (hH.below M1).cells (by omega)
        cases e
        have d0 := hcs k hlt 0 (by omega)
        have d1 := hcs k hlt 1 (by omega)
        have hsz := hf5 hs[k] (List.getElem_mem hlt)
        have HTK := hide (mgH_take c nb.size hs k hlt)
        clear hcs
        generalize hs[k] = hk0 at *
        obtain ⟨n1, n2⟩ := hk0
        simp only [hrc, List.getElem?_cons_zero, List.getElem?_cons_succ, Nat.add_zero] at d0 d1 HTK
        simp only at hsz
        have la := later_allocR wr (.cells #[.string n1, .string n2] 45)
        have HA := hide (heap_alloc_new wr (.cells #[.string n1, .string n2] 45))
        have k0 := block_cell E0.out
        have HGN : Hid (gn < wr.heap.size) := hgnr
        go_upto_region 8 with fail
        clear d0 d1 k0
        generalize hgh : wr.heap.size = gh at HA ⊢
        generalize wr.alloc (.cells #[.string n1, .string n2] 45) = wq at *
        have kH := block_cell HA.out
        go_wp2_with fail
        refine (rlower_any n1 wq (by omega)).mono ?_
        rintro e w6 ⟨rfl, l6⟩
        clear kH
        have LQ : Later wr w6 := la.trans l6
        have HB6 := hide (later_keep l6 HA.out)
        clear HA la l6
        have f1 := low_vi n1
        have f2 := low_ct n1
        have f3 := low_cn n1
        generalize strOfNums (lowZ n1) = lz at *
        have HVU : Hid (vuB c nb.size (n1, n2) = if swV n1 viN = true then wiB c n2 mkV enV else if swV n1 ctN = true then wiB c n2 mkC enK else if swV n1 clN = true then decB nb.size else n2) := rfl
        go_upto_block 2 with fail
        go_cut [16] (fun _ wx => Hid (Later wr wx) ∧ Hid (wx.heap[gh]? = some (.cells #[.string n1, .string (vuB c nb.size (n1, n2))] 45 (0, 0))))
        case first =>
          have k6 := block_cell HB6.out
          cases hv1 : swV n1 viN with
          | true =>
            rw [hv1] at f1
            have HV : Hid (vuB c nb.size (n1, n2) = wiB c n2 mkV enV) := by (show _ = _); rw [HVU.out, if_pos hv1]
            clear hv1 HVU
            go_upto_region 10 with fail
            clear f1 f2 f3
            go_wp2_with fail
            refine (rfind_any n2 mkV w6 (by omega) (by decide)).mono ?_
            rintro e w7 ⟨rfl, hw7⟩
            have hw8 := hw7.symm
            subst hw8
            cases hcf : cutF n2 mkV with
            | false =>
              rw [fnI_no hcf]
              have HV2 : Hid (vuB c nb.size (n1, n2) = n2) := by (show _ = _); rw [HV.out]; unfold wiB; rw [if_pos hcf]
              clear hcf
              go_wp2_with fail
              go_meet
              case rel => exact ⟨hide LQ, by (show _ = _); rw [HV2.out]; exact HB6.out⟩
            | true =>
              have hcs := congrArg ByteArray.size (cut_yes hcf)
              rw [ByteArray.size_append, ByteArray.size_append, show mkV.size = 12 from rfl] at hcs
              rw [fnI_yes hcf]
              have hwd := wiB_plD c n2 mkV enV hcf
              rw [show mkV.size = 12 from rfl] at hwd
              have HV2 : Hid (vuB c nb.size (n1, n2) = plD c n2 enV ((cutA n2 mkV).size + 12)) := by (show _ = _); rw [HV.out, hwd]
              clear hcf hwd
              generalize (cutA n2 mkV).size = xx at *
              have HPV := hide (HPL.out n2 (xx + 12) enV (.inl rfl) (by omega) (by omega) w6)
              have q1 : ((xx + 12 : Nat) : Int) = (xx : Int) + 12 := by omega
              rw [q1] at HPV
              clear q1
              go_wp2_with fail
              refine HPV.out.mono ?_
              rintro e w7 ⟨rfl, l7⟩
              have HB7 := later_keep l7 HB6.out
              clear HPV k6
              have k7 := block_cell HB7
              have f7 := block_frozen HB7
              have h77 := heap_set1 HB7 1 (.string (plD c n2 enV (xx + 12)))
              have hbt : But (fun b => b = gh) w7 (w7.setCell ⟨gh, 1, none⟩ (.string (plD c n2 enV (xx + 12)))) := (But.refl (fun b => b = gh) _).setCell (show _ = _ from rfl) _
              have L77 : Later wr (w7.setCell ⟨gh, 1, none⟩ (.string (plD c n2 enV (xx + 12)))) := Below.trans (LQ.trans l7) (hbt.below (LQ.trans l7).size (fun k h e => by omega))
              simp only [List.setIfInBounds_toArray, List.set_cons_zero, List.set_cons_succ] at h77
              rw [← HV2.out] at h77 L77
              have H77 := hide h77
              have HL77 := hide L77
              clear h77 L77 hbt
              have HV3 := hide HV2.out.symm
              go_wp2_with fail
              go_meet
              case rel => rw [HV3.out]; exact ⟨HL77, H77⟩
          | false =>
            rw [hv1] at f1
            cases hv2 : swV n1 ctN with
            | true =>
              rw [hv2] at f2
              have HV : Hid (vuB c nb.size (n1, n2) = wiB c n2 mkC enK) := by (show _ = _); rw [HVU.out, if_neg (by rw [hv1]; simp), if_pos hv2]
              clear hv1 hv2 HVU
              go_upto_region 14 with fail
              clear f1 f2 f3
              go_wp2_with fail
              refine (rfind_any n2 mkC w6 (by omega) (by decide)).mono ?_
              rintro e w7 ⟨rfl, hw7⟩
              have hw8 := hw7.symm
              subst hw8
              cases hcf : cutF n2 mkC with
              | false =>
                rw [fnI_no hcf]
                have HV2 : Hid (vuB c nb.size (n1, n2) = n2) := by (show _ = _); rw [HV.out]; unfold wiB; rw [if_pos hcf]
                clear hcf
                go_wp2_with fail
                go_meet
                case rel => exact ⟨hide LQ, by (show _ = _); rw [HV2.out]; exact HB6.out⟩
              | true =>
                have hcs := congrArg ByteArray.size (cut_yes hcf)
                rw [ByteArray.size_append, ByteArray.size_append, show mkC.size = 1 from rfl] at hcs
                rw [fnI_yes hcf]
                have hwd := wiB_plD c n2 mkC enK hcf
                rw [show mkC.size = 1 from rfl] at hwd
                have HV2 : Hid (vuB c nb.size (n1, n2) = plD c n2 enK ((cutA n2 mkC).size + 1)) := by (show _ = _); rw [HV.out, hwd]
                clear hcf hwd
                generalize (cutA n2 mkC).size = xx at *
                have HPV := hide (HPL.out n2 (xx + 1) enK (.inr rfl) (by omega) (by omega) w6)
                have q1 : ((xx + 1 : Nat) : Int) = (xx : Int) + 1 := by omega
                rw [q1] at HPV
                clear q1
                go_wp2_with fail
                refine HPV.out.mono ?_
                rintro e w7 ⟨rfl, l7⟩
                have HB7 := later_keep l7 HB6.out
                clear HPV k6
                have k7 := block_cell HB7
                have f7 := block_frozen HB7
                have h77 := heap_set1 HB7 1 (.string (plD c n2 enK (xx + 1)))
                have hbt : But (fun b => b = gh) w7 (w7.setCell ⟨gh, 1, none⟩ (.string (plD c n2 enK (xx + 1)))) := (But.refl (fun b => b = gh) _).setCell (show _ = _ from rfl) _
                have L77 : Later wr (w7.setCell ⟨gh, 1, none⟩ (.string (plD c n2 enK (xx + 1)))) := Below.trans (LQ.trans l7) (hbt.below (LQ.trans l7).size (fun k h e => by omega))
                simp only [List.setIfInBounds_toArray, List.set_cons_zero, List.set_cons_succ] at h77
                rw [← HV2.out] at h77 L77
                have H77 := hide h77
                have HL77 := hide L77
                clear h77 L77 hbt
                have HV3 := hide HV2.out.symm
                go_wp2_with fail
                go_meet
                case rel => rw [HV3.out]; exact ⟨HL77, H77⟩
            | false =>
              rw [hv2] at f2
              cases hv3 : swV n1 clN with
              | true =>
                rw [hv3] at f3
                have HV : Hid (vuB c nb.size (n1, n2) = decB nb.size) := by (show _ = _); rw [HVU.out, if_neg (by rw [hv1]; simp), if_neg (by rw [hv2]; simp), if_pos hv3]
                clear hv1 hv2 hv3 HVU
                have kn := block_cell (later_keep LQ EN.out)
                go_upto_region 18 with fail
                clear f1 f2 f3
                go_wp2_with fail
                refine (rdigits_any nb.size (by omega) w6).mono ?_
                rintro e w7 ⟨rfl, l7⟩
                have HB7 := later_keep l7 HB6.out
                clear k6 kn
                have k7 := block_cell HB7
                have f7 := block_frozen HB7
                have h77 := heap_set1 HB7 1 (.string (decB nb.size))
                have hbt : But (fun b => b = gh) w7 (w7.setCell ⟨gh, 1, none⟩ (.string (decB nb.size))) := (But.refl (fun b => b = gh) _).setCell (show _ = _ from rfl) _
                have L77 : Later wr (w7.setCell ⟨gh, 1, none⟩ (.string (decB nb.size))) := Below.trans (LQ.trans l7) (hbt.below (LQ.trans l7).size (fun k h e => by omega))
                simp only [List.setIfInBounds_toArray, List.set_cons_zero, List.set_cons_succ] at h77
                have H77 := hide h77
                have HL77 := hide L77
                clear h77 L77 hbt
                go_wp2_with fail
                go_meet
                case rel => exact ⟨HL77, by (show _ = _); rw [HV.out]; exact H77.out⟩
              | false =>
                rw [hv3] at f3
                have HV : Hid (vuB c nb.size (n1, n2) = n2) := by (show _ = _); rw [HVU.out, if_neg (by rw [hv1]; simp), if_neg (by rw [hv2]; simp), if_neg (by rw [hv3]; simp)]
                clear hv1 hv2 hv3 HVU
                go_wp2_with fail
                go_meet
                case rel => exact ⟨hide LQ, by (show _ = _); rw [HV.out]; exact HB6.out⟩
        case rest =>
          obtain ⟨HLW, HBX⟩ := hcut
          clear f1 f2 f3 LQ HB6 HVU
          generalize vuB c nb.size (n1, n2) = nv at *
          have LW := HLW.out
          have EHc := ownsS_ct EH.out (CTs.of LW)
          have EBc := ownsS_ct EB.out (CTs.of LW)
          have ENc := later_keep LW EN.out
          have E0c := later_keep LW E0.out
          have E1c := later_keep LW E1.out
          have MC : Below w.heap.size w wc := Below.trans M1 (LW.mono M1.size)
          have hgcc : gc ≤ wc.heap.size := by rw [← hgc]; exact MC.size
          have hgnc : gn < wc.heap.size := Nat.lt_of_lt_of_le HGN.out LW.size
          have l2 := later_allocR wc (.cells #[.string n1, .string nv] 45)
          have HNW := heap_alloc_new wc (.cells #[.string n1, .string nv] 45)
          have hnk := block_cell HNW
          have kb := block_cell HBX.out
          have kn := block_cell ENc
          have EH5 := ownsS_ct EHc (CTs.of l2)
          have EB5 := ownsS_ct EBc (CTs.of l2)
          have EN5 := later_keep l2 ENc
          have E05 := later_keep l2 E0c
          have E15 := later_keep l2 E1c
          obtain ⟨i0, hi0, hz0, hz1, hz2⟩ := info_partsS info_hdrR
          obtain ⟨v', W2, hrun, hrow, hg, _⟩ := run_append_own (P := Tryz.prog) (wc.alloc (.cells #[.string n1, .string nv] 45)) gc 32 32 45 i0 (.agg #[.string ⟨#[]⟩, .string ⟨#[]⟩]) 2 32 Tryz.underlying32 hi0 hz0 hz1 hz2 rfl (by decide) (.slice ha k hcp) k (hrs (mgH c nb.size (hs.take k))) EH5 ⟨wc.heap.size, 0, none⟩ 1 1 [.string n1, .string nv] rfl
            (fun j u hj => by
              rw [show (⟨wc.heap.size, 0, none⟩ : Addr).add j = ⟨wc.heap.size, 0 + j, none⟩ from by unfold Addr.add; split <;> simp_all]
              rw [Nat.zero_add, hnk j, ← hj]; simp)
            (by intro u hu; simp at hu; rcases hu with rfl | rfl <;> rfl) (by unfold maxLen; omega) (by omega) (Nat.le_trans hgcc l2.size)
          obtain ⟨a2, cp2, rfl⟩ := owns_form hrow
          have EN2 := keep_row EH5 hg EN5 (.inl fun cur f e => by cases e)
          have E02 := keep_row EH5 hg E05 (.inl fun cur f e => by cases e)
          have E12 := keep_row EH5 hg E15 (.inl fun cur f e => by cases e)
          have EB2 := keep_own EH5 hg (by decide) EB5
          have M2 : Below w.heap.size w W2 := (MC.trans (l2.mono MC.size)).trans ⟨hg.os, hg.tape, hg.output, hg.size, fun i hi => by
            cases hh : (wc.alloc (.cells #[.string n1, .string nv] 45)).heap[i]? with
            | none => have := Array.getElem?_eq_none_iff.1 hh; have := l2.size; have := MC.size; omega
            | some o => exact keep_row EH5 hg hh (.inr (by omega))⟩
          have hgn2 : gn < W2.heap.size := (Array.getElem?_eq_some_iff.1 EN2).1
          have k2 := block_cell EN2
          have f2 := block_frozen EN2
          have EN8 := heap_set1 EN2 1 (.slice a2 (k + 1) cp2)
          have E08 := hsetS_ne (j := 1) (v := .slice a2 (k + 1) cp2) E02 (m := gn) (by omega)
          have E18 := hsetS_ne (j := 1) (v := .slice a2 (k + 1) cp2) E12 (m := gn) (by omega)
          have EB8 := own_set EB2 EN2 (by decide) 1 (.slice a2 (k + 1) cp2)
          have EH8 := own_set hrow EN2 (by decide) 1 (.slice a2 (k + 1) cp2)
          have hbt : But (fun b => b = gn) W2 (W2.setCell ⟨gn, 1, none⟩ (.slice a2 (k + 1) cp2)) := (But.refl (fun b => b = gn) _).setCell (show _ = _ from rfl) _
          have M8 : Below w.heap.size w (W2.setCell ⟨gn, 1, none⟩ (.slice a2 (k + 1) cp2)) := M2.trans (hbt.below M2.size (fun k h e => by omega))
          have hgn8 : gn < (W2.setCell ⟨gn, 1, none⟩ (.slice a2 (k + 1) cp2)).heap.size := Nat.lt_of_lt_of_le hgn2 hbt.size
          have EH9 : (W2.setCell ⟨gn, 1, none⟩ (.slice a2 (k + 1) cp2)).ownsRow gc 45 2 (.slice a2 (k + 1) cp2) (k + 1) (hrs (mgH c nb.size (hs.take (k + 1)))) := by
            rw [HTK.out, hrs_snoc]
            exact EH8
          simp only [List.setIfInBounds_toArray, List.set_cons_zero, List.set_cons_succ] at EN8
          have HE8 := hide E08; have HF8 := hide E18; have HG8 := hide EN8; have HB8 := hide EB8; have HH9 := hide EH9; have HM8 := hide M8; have HL8 := hide hgn8
          have HRUN := hide hrun
          clear E08 E18 EN8 EB8 EH9 EH8 M8 hgn8 hbt hrow EB2 E12 E02 EN2 hg hrun E15 E05 EN5 EB5 EH5 hnk HNW EHc EBc E0c E1c ENc M2 l2 MC LW HLW hi0 hz0 hz1 hz2
          go_wp2_with (at_builtin; refine wpList_appw rfl (.tmp 89) (.tmp 91) 32 rfl _ _ rfl rfl _ _ HRUN.out ?_)
          go_roundw
          case rel => exact ⟨k + 1, .slice a2 (k + 1) cp2, by omega, by go_num, HM8.out, HL8.out, HE8, HF8, HG8, HB8, HH9⟩
          case measure => simp [intOf]; omega
end Go.Proofs.YtibjgaelaijgpaaGreatDoor

/- Package sip: Parse. -/
namespace Go.Proofs.YtibjgaelaijgpaaGreatDoor
open Go.RowKit Go.Shelf
set_option maxRecDepth 100000
set_option linter.unusedVariables false
set_option linter.unusedSimpArgs false

end Go.Proofs.YtibjgaelaijgpaaGreatDoor

/- The document's Parse. -/
namespace Go.Proofs.YtibjgaelaijgpaaGreatDoor
open Go.RowKit Go.Shelf
set_option maxRecDepth 100000
set_option linter.unusedVariables false
set_option linter.unusedSimpArgs false

theorem Ow.butT14 {base : Nat} {E : Nat → Prop} {W W' : World} {v : Value} {ys : List Int} (h : Ow base W v ys) (hb : But E W W') (hE : ∀ g cur fz, W.heap[g]? = some (.cells cur 5 fz) → ¬ E g) : Ow base W' v ys := by
  rcases h with h | ⟨g', cap, cur', e, h1, h2, h3, h4, hh, r⟩
  · exact .inl h
  · exact .inr ⟨g', cap, cur', e, h1, h2, h3, h4, (hb.block g' (Array.getElem?_eq_some_iff.1 hh).1 (hE g' cur' _ hh)).trans hh, r⟩
end Go.Proofs.YtibjgaelaijgpaaGreatDoor

/- The document's text, Build. -/
namespace Go.Proofs.YtibjgaelaijgpaaGreatDoor
open Go.RowKit Go.Shelf
set_option maxRecDepth 100000
set_option linter.unusedVariables false
set_option linter.unusedSimpArgs false

end Go.Proofs.YtibjgaelaijgpaaGreatDoor

/- The document's Same. -/
namespace Go.Proofs.YtibjgaelaijgpaaGreatDoor
open Go.RowKit Go.Shelf
set_option maxRecDepth 100000
set_option linter.unusedVariables false
set_option linter.unusedSimpArgs false

set_option maxRecDepth 100000 in
set_option maxHeartbeats 8000000 in
theorem rsame14_any (s1 s2 : ByteArray) (v1 v2 b1 b2 : Value) (h1 h2 : List Hr) (z1 z2 : List Int) (w : World) (hH1 : RdM w.heap.size w v1 h1) (hH2 : RdM w.heap.size w v2 h2) (hB1 : Rd w.heap.size w b1 z1) (hB2 : Rd w.heap.size w b2 z2) (hy1 : Mt.By z1) (hy2 : Mt.By z2) :
    Calls Tryz.prog 20 #[.agg #[.string s1, v1, b1], .agg #[.string s2, v2, b2]] w fun e w' => e = .returned (.bool (smM s1 s2 h1 h2 z1 z2)) ∧ Later w w' := by
  obtain ⟨a1, c1, rfl, _, _⟩ := hH1.slice
  obtain ⟨a2, c2, rfl, _, _⟩ := hH2.slice
  obtain ⟨a3, c3, rfl, _, _⟩ := hB1.slice
  obtain ⟨a4, c4, rfl, _, _⟩ := hB2.slice
  have hb4 : Later w ((w.alloc (.cells #[.string s1, .slice a1 h1.length c1, .slice a3 z1.length c3] 34)).alloc (.cells #[.string s2, .slice a2 h2.length c2, .slice a4 z2.length c4] 34)) := ((Below.refl _ _).alloc (Nat.le_refl _) _).alloc (by simp) _
  have C0 := hide (show ((w.alloc (.cells #[.string s1, .slice a1 h1.length c1, .slice a3 z1.length c3] 34)).alloc (.cells #[.string s2, .slice a2 h2.length c2, .slice a4 z2.length c4] 34)).heap[w.heap.size]? = some (.cells #[.string s1, .slice a1 h1.length c1, .slice a3 z1.length c3] 34 (0, 0)) from (Below.heap_alloc _ _ _ (by simp)).trans (heap_alloc_new w _))
  have C1 : Hid (((w.alloc (.cells #[.string s1, .slice a1 h1.length c1, .slice a3 z1.length c3] 34)).alloc (.cells #[.string s2, .slice a2 h2.length c2, .slice a4 z2.length c4] 34)).heap[w.heap.size + 1]? = some (.cells #[.string s2, .slice a2 h2.length c2, .slice a4 z2.length c4] 34 (0, 0))) := by
    have := heap_alloc_new (w.alloc (.cells #[.string s1, .slice a1 h1.length c1, .slice a3 z1.length c3] 34)) (.cells #[.string s2, .slice a2 h2.length c2, .slice a4 z2.length c4] 34)
    rw [World.size_alloc] at this
    exact this
  have hv1 := conv_rd 23 9 5 Tryz.underlying23 Tryz.underlying5 Tryz.underlying9 (hB1.later hb4)
  have hv2 := conv_rd 23 9 5 Tryz.underlying23 Tryz.underlying5 Tryz.underlying9 (hB2.later hb4)
  have HV : Hid (smM s1 s2 h1 h2 z1 z2 = (eqS s1 s2 && (decide (h1 = h2) && decide (z1 = z2)))) := rfl
  have HQ := hide (str_beq s1 s2)
  have HZ := hide (str_eq hy1 hy2)
  generalize strOfNums z1 = t1 at *
  generalize strOfNums z2 = t2 at *
  generalize smM s1 s2 h1 h2 z1 z2 = r at *
  generalize decide (z1 = z2) = q2 at *
  generalize eqS s1 s2 = q0 at *
  have HH1 := hide (hH1.later hb4)
  have HH2 := hide (hH2.later hb4)
  clear hB1 hB2 hy1 hy2
  go_enter Tryz.func20, Tryz.ntmps20
  go_upto_region 1 with fail
  generalize (w.alloc (.cells #[.string s1, .slice a1 h1.length c1, .slice a3 z1.length c3] 34)).alloc (.cells #[.string s2, .slice a2 h2.length c2, .slice a4 z2.length c4] 34) = w4 at *
  generalize w.heap.size = gc at C0 C1 ⊢
  have k0 := block_cell C0.out
  have k1 := block_cell C1.out
  have hq0 := HQ.out
  have hqz := HZ.out
  cases q0 with
  | false =>
    go_wp2_with fail
    go_ret
    exact ⟨by rw [HV.out]; rfl, hb4⟩
  | true =>
    by_cases hne : h1.length = h2.length
    case neg =>
      have hb : ((h1.length : Int) != (h2.length : Int)) = true := by simp; omega
      have HE : Hid (r = false) := by show _ = _; rw [HV.out, decide_eq_false (fun e => hne (by rw [e]))]; rfl
      go_wp2_with fail
      go_ret
      exact ⟨by rw [HE.out]; rfl, hb4⟩
    have hb : ((h1.length : Int) != (h2.length : Int)) = false := by simp; omega
    have HNE := hide hne
    clear hne
    cases q2 with
    | false =>
      go_wp2_with fail
      go_ret
      exact ⟨by rw [HV.out]; simp, hb4⟩
    | true =>
      have HV2 : Hid (r = decide (h1 = h2)) := by show _ = _; rw [HV.out]; simp
      go_upto_region 4 with fail
      clear hb hv1 hv2 k0 k1 hq0 hqz HV
      go_loopw [5] (fun iv wr => ∃ k : Nat, k ≤ h1.length ∧ iv = .int .i64 (k : Int) ∧ Later w4 wr ∧ Hid (h1.take k = h2.take k)) (fun iv _ => h1.length - (intOf iv).toNat)
      case atStart => exact ⟨0, by omega, rfl, Later.refl _, hide rfl⟩
      case round =>
        obtain ⟨k, hk, rfl, lr, heq⟩ := hrel
        have k0 := block_cell (later_keep lr C0.out)
        have k1 := block_cell (later_keep lr C1.out)
        by_cases hlt : k < h1.length
        · have hlt' : (k : Int) < (h1.length : Int) := by omega
          have hlt2 : k < h2.length := by rw [← HNE.out]; exact hlt
          have hlt2' : (k : Int) < (h2.length : Int) := by omega
          obtain ⟨b, off, cp, e, _, _, hbn, hcs⟩ := (HH1.out.later lr).cells (by omega)
          cases e
          obtain ⟨b2, off2, cp2, e, _, _, hbn2, hcs2⟩ := (HH2.out.later lr).cells (by omega)
          cases e
          have d0 := hcs k hlt 0 (by omega)
          have d1 := hcs k hlt 1 (by omega)
          have e0 := hcs2 k hlt2 0 (by omega)
          have e1 := hcs2 k hlt2 1 (by omega)
          have HS : Hid (h1[k] = h2[k] → h1.take (k + 1) = h2.take (k + 1)) := fun h => by rw [← List.take_append_getElem hlt, ← List.take_append_getElem hlt2, heq.out, h]
          have HN : Hid (h1[k] ≠ h2[k] → r = false) := fun h => by rw [HV2.out, decide_eq_false_iff_not]; intro e; subst e; exact h rfl
          clear hcs hcs2
          generalize h1[k] = r1 at *
          obtain ⟨x, y⟩ := r1
          generalize h2[k] = r2 at *
          obtain ⟨x2, y2⟩ := r2
          simp only [hrc, List.getElem?_cons_zero, List.getElem?_cons_succ, Nat.add_zero] at d0 d1 e0 e1
          by_cases hxy : (x, y) = (x2, y2)
          · have HSS := hide (HS.out hxy)
            cases hxy
            clear HS HN
            go_upto_region 6 with fail; refine anyR_begin (R := Later) Later.pre Later.drew 11 rfl (by kernel_rfl) (fun V0 hV0 => ?_); have q0 : ∀ v, Later V0 v → v.cell? ⟨b, off + k * 2, none⟩ = some (.string _) := (fun v hv => (hV0.trans hv).cell d0); have q1 : ∀ v, Later V0 v → v.cell? ⟨b, off + k * 2 + 1, none⟩ = some (.string _) := (fun v hv => (hV0.trans hv).cell d1); have q2 : ∀ v, Later V0 v → v.cell? ⟨b2, off2 + k * 2, none⟩ = some (.string _) := (fun v hv => (hV0.trans hv).cell e0); have q3 : ∀ v, Later V0 v → v.cell? ⟨b2, off2 + k * 2 + 1, none⟩ = some (.string _) := (fun v hv => (hV0.trans hv).cell e1); clear d0 d1 e0 e1 k0 k1; have k0 : ∀ v, Later V0 v → ∀ j, v.cell? ⟨gc, j, none⟩ = #[Value.string s1, .slice (some ⟨b, off, none⟩) h1.length c1, .slice a3 z1.length c3][j]? := (fun v hv => block_cell (later_keep (lr.trans (hV0.trans hv)) C0.out)); have k1 : ∀ v, Later V0 v → ∀ j, v.cell? ⟨gc + 1, j, none⟩ = #[Value.string s2, .slice (some ⟨b2, off2, none⟩) h2.length c2, .slice a4 z2.length c4][j]? := (fun v hv => block_cell (later_keep (lr.trans (hV0.trans hv)) C1.out)); refine anyR_val Later.pre 0 rfl (by kernel_rfl) (by kernel_rfl) (by kernel_rfl) (fun _ _ _ _ h => h) rfl ?_; apply Exists.intro; refine ⟨fun v1 hv1 => ?_, ?_⟩; (· (go_simp; rfl)); simp only [Act.put, List.setIfInBounds_toArray, List.set_cons_zero, List.set_cons_succ]; refine anyR_val Later.pre 1 rfl (by kernel_rfl) (by kernel_rfl) (by kernel_rfl) (fun _ _ _ _ h => h) rfl ?_; apply Exists.intro; refine ⟨fun v1 hv1 => ?_, ?_⟩; (· (go_simp; rfl)); simp only [Act.put, List.setIfInBounds_toArray, List.set_cons_zero, List.set_cons_succ]; refine anyR_val Later.pre 2 rfl (by kernel_rfl) (by kernel_rfl) (by kernel_rfl) (fun _ _ _ _ h => h) rfl ?_; apply Exists.intro; refine ⟨fun v1 hv1 => ?_, ?_⟩; (· (go_simp; rfl)); simp only [Act.put, List.setIfInBounds_toArray, List.set_cons_zero, List.set_cons_succ]; refine anyR_val Later.pre 3 rfl (by kernel_rfl) (by kernel_rfl) (by kernel_rfl) (fun _ _ _ _ h => h) rfl ?_; apply Exists.intro; refine ⟨fun v1 hv1 => ?_, ?_⟩; (· (go_simp; rfl)); simp only [Act.put, List.setIfInBounds_toArray, List.set_cons_zero, List.set_cons_succ]; refine anyR_val Later.pre 4 rfl (by kernel_rfl) (by kernel_rfl) (by kernel_rfl) (fun _ _ _ _ h => h) rfl ?_; apply Exists.intro; refine ⟨fun v1 hv1 => ?_, ?_⟩; (· (go_simp; rfl)); simp only [Act.put, List.setIfInBounds_toArray, List.set_cons_zero, List.set_cons_succ]; refine anyR_val Later.pre 5 rfl (by kernel_rfl) (by kernel_rfl) (by kernel_rfl) (fun _ _ _ _ h => h) rfl ?_; apply Exists.intro; refine ⟨fun v1 hv1 => ?_, ?_⟩; (· (go_simp; rfl)); simp only [Act.put, List.setIfInBounds_toArray, List.set_cons_zero, List.set_cons_succ]; refine anyR_val Later.pre 6 rfl (by kernel_rfl) (by kernel_rfl) (by kernel_rfl) (fun _ _ _ _ h => h) rfl ?_; apply Exists.intro; refine ⟨fun v1 hv1 => ?_, ?_⟩; (· (go_simp; rfl)); simp only [Act.put, List.setIfInBounds_toArray, List.set_cons_zero, List.set_cons_succ]; refine anyR_val Later.pre 7 rfl (by kernel_rfl) (by kernel_rfl) (by kernel_rfl) (fun _ _ _ _ h => h) rfl ?_; apply Exists.intro; refine ⟨fun v1 hv1 => ?_, ?_⟩; (· (go_simp; rfl)); simp only [Act.put, List.setIfInBounds_toArray, List.set_cons_zero, List.set_cons_succ]; refine anyR_val Later.pre 8 rfl (by kernel_rfl) (by kernel_rfl) (by kernel_rfl) (fun _ _ _ _ h => h) rfl ?_; apply Exists.intro; refine ⟨fun v1 hv1 => ?_, ?_⟩; (· (go_simp; rfl)); simp only [Act.put, List.setIfInBounds_toArray, List.set_cons_zero, List.set_cons_succ]; refine anyR_val Later.pre 9 rfl (by kernel_rfl) (by kernel_rfl) (by kernel_rfl) (fun _ _ _ _ h => h) rfl ?_; apply Exists.intro; refine ⟨fun v1 hv1 => ?_, ?_⟩; (· (go_simp; rfl)); simp only [Act.put, List.setIfInBounds_toArray, List.set_cons_zero, List.set_cons_succ]; refine anyR_val Later.pre 10 rfl (by kernel_rfl) (by kernel_rfl) (by kernel_rfl) (fun _ _ _ _ h => h) rfl ?_; apply Exists.intro; refine ⟨fun v1 hv1 => ?_, ?_⟩; (· (go_simp; rfl)); simp only [Act.put, List.setIfInBounds_toArray, List.set_cons_zero, List.set_cons_succ]; clear q0 q1 q2 q3 k0 k1; refine anyR_done (by kernel_rfl) (fun V9 hV9 => ?_)
            go_wp2_with fail
            go_roundw
            case rel => exact ⟨k + 1, by omega, by go_num, lr.trans (hV0.trans hV9), HSS⟩
            case measure => simp [intOf]; omega
          · have HVV := hide (HN.out hxy)
            have hor : (¬ x.toList = x2.toList) ∨ (x.toList = x2.toList ∧ ¬ y.toList = y2.toList) := by
              by_cases hx : x.toList = x2.toList
              · refine .inr ⟨hx, fun hy => hxy ?_⟩
                rw [ByteArray.toList_eq, ByteArray.toList_eq] at hx hy
                rw [ba_ext hx, ba_ext hy]
              · exact .inl hx
            clear HS HN hxy
            rcases hor with hx | ⟨hx, hy⟩
            · go_upto_region 6 with fail; refine anyR_begin (R := Later) Later.pre Later.drew 11 rfl (by kernel_rfl) (fun V0 hV0 => ?_); have q0 : ∀ v, Later V0 v → v.cell? ⟨b, off + k * 2, none⟩ = some (.string _) := (fun v hv => (hV0.trans hv).cell d0); have q1 : ∀ v, Later V0 v → v.cell? ⟨b, off + k * 2 + 1, none⟩ = some (.string _) := (fun v hv => (hV0.trans hv).cell d1); have q2 : ∀ v, Later V0 v → v.cell? ⟨b2, off2 + k * 2, none⟩ = some (.string _) := (fun v hv => (hV0.trans hv).cell e0); have q3 : ∀ v, Later V0 v → v.cell? ⟨b2, off2 + k * 2 + 1, none⟩ = some (.string _) := (fun v hv => (hV0.trans hv).cell e1); clear d0 d1 e0 e1 k0 k1; have k0 : ∀ v, Later V0 v → ∀ j, v.cell? ⟨gc, j, none⟩ = #[Value.string s1, .slice (some ⟨b, off, none⟩) h1.length c1, .slice a3 z1.length c3][j]? := (fun v hv => block_cell (later_keep (lr.trans (hV0.trans hv)) C0.out)); have k1 : ∀ v, Later V0 v → ∀ j, v.cell? ⟨gc + 1, j, none⟩ = #[Value.string s2, .slice (some ⟨b2, off2, none⟩) h2.length c2, .slice a4 z2.length c4][j]? := (fun v hv => block_cell (later_keep (lr.trans (hV0.trans hv)) C1.out)); refine anyR_val Later.pre 0 rfl (by kernel_rfl) (by kernel_rfl) (by kernel_rfl) (fun _ _ _ _ h => h) rfl ?_; apply Exists.intro; refine ⟨fun v1 hv1 => ?_, ?_⟩; (· (go_simp; rfl)); simp only [Act.put, List.setIfInBounds_toArray, List.set_cons_zero, List.set_cons_succ]; refine anyR_val Later.pre 1 rfl (by kernel_rfl) (by kernel_rfl) (by kernel_rfl) (fun _ _ _ _ h => h) rfl ?_; apply Exists.intro; refine ⟨fun v1 hv1 => ?_, ?_⟩; (· (go_simp; rfl)); simp only [Act.put, List.setIfInBounds_toArray, List.set_cons_zero, List.set_cons_succ]; refine anyR_val Later.pre 2 rfl (by kernel_rfl) (by kernel_rfl) (by kernel_rfl) (fun _ _ _ _ h => h) rfl ?_; apply Exists.intro; refine ⟨fun v1 hv1 => ?_, ?_⟩; (· (go_simp; rfl)); simp only [Act.put, List.setIfInBounds_toArray, List.set_cons_zero, List.set_cons_succ]; refine anyR_val Later.pre 3 rfl (by kernel_rfl) (by kernel_rfl) (by kernel_rfl) (fun _ _ _ _ h => h) rfl ?_; apply Exists.intro; refine ⟨fun v1 hv1 => ?_, ?_⟩; (· (go_simp; rfl)); simp only [Act.put, List.setIfInBounds_toArray, List.set_cons_zero, List.set_cons_succ]; refine anyR_val Later.pre 4 rfl (by kernel_rfl) (by kernel_rfl) (by kernel_rfl) (fun _ _ _ _ h => h) rfl ?_; apply Exists.intro; refine ⟨fun v1 hv1 => ?_, ?_⟩; (· (go_simp; rfl)); simp only [Act.put, List.setIfInBounds_toArray, List.set_cons_zero, List.set_cons_succ]; refine anyR_val Later.pre 5 rfl (by kernel_rfl) (by kernel_rfl) (by kernel_rfl) (fun _ _ _ _ h => h) rfl ?_; apply Exists.intro; refine ⟨fun v1 hv1 => ?_, ?_⟩; (· (go_simp; rfl)); simp only [Act.put, List.setIfInBounds_toArray, List.set_cons_zero, List.set_cons_succ]; refine anyR_val Later.pre 6 rfl (by kernel_rfl) (by kernel_rfl) (by kernel_rfl) (fun _ _ _ _ h => h) rfl ?_; apply Exists.intro; refine ⟨fun v1 hv1 => ?_, ?_⟩; (· (go_simp; rfl)); simp only [Act.put, List.setIfInBounds_toArray, List.set_cons_zero, List.set_cons_succ]; refine anyR_val Later.pre 7 rfl (by kernel_rfl) (by kernel_rfl) (by kernel_rfl) (fun _ _ _ _ h => h) rfl ?_; apply Exists.intro; refine ⟨fun v1 hv1 => ?_, ?_⟩; (· (go_simp; rfl)); simp only [Act.put, List.setIfInBounds_toArray, List.set_cons_zero, List.set_cons_succ]; refine anyR_val Later.pre 8 rfl (by kernel_rfl) (by kernel_rfl) (by kernel_rfl) (fun _ _ _ _ h => h) rfl ?_; apply Exists.intro; refine ⟨fun v1 hv1 => ?_, ?_⟩; (· (go_simp; rfl)); simp only [Act.put, List.setIfInBounds_toArray, List.set_cons_zero, List.set_cons_succ]; refine anyR_val Later.pre 9 rfl (by kernel_rfl) (by kernel_rfl) (by kernel_rfl) (fun _ _ _ _ h => h) rfl ?_; apply Exists.intro; refine ⟨fun v1 hv1 => ?_, ?_⟩; (· (go_simp; rfl)); simp only [Act.put, List.setIfInBounds_toArray, List.set_cons_zero, List.set_cons_succ]; refine anyR_val Later.pre 10 rfl (by kernel_rfl) (by kernel_rfl) (by kernel_rfl) (fun _ _ _ _ h => h) rfl ?_; apply Exists.intro; refine ⟨fun v1 hv1 => ?_, ?_⟩; (· (go_simp; rfl)); simp only [Act.put, List.setIfInBounds_toArray, List.set_cons_zero, List.set_cons_succ]; clear q0 q1 q2 q3 k0 k1; refine anyR_done (by kernel_rfl) (fun V9 hV9 => ?_)
              go_wp2_with fail
              go_ret
              exact ⟨by rw [HVV.out]; rfl, Later.trans hb4 (lr.trans (hV0.trans hV9))⟩
            · go_upto_region 6 with fail; refine anyR_begin (R := Later) Later.pre Later.drew 11 rfl (by kernel_rfl) (fun V0 hV0 => ?_); have q0 : ∀ v, Later V0 v → v.cell? ⟨b, off + k * 2, none⟩ = some (.string _) := (fun v hv => (hV0.trans hv).cell d0); have q1 : ∀ v, Later V0 v → v.cell? ⟨b, off + k * 2 + 1, none⟩ = some (.string _) := (fun v hv => (hV0.trans hv).cell d1); have q2 : ∀ v, Later V0 v → v.cell? ⟨b2, off2 + k * 2, none⟩ = some (.string _) := (fun v hv => (hV0.trans hv).cell e0); have q3 : ∀ v, Later V0 v → v.cell? ⟨b2, off2 + k * 2 + 1, none⟩ = some (.string _) := (fun v hv => (hV0.trans hv).cell e1); clear d0 d1 e0 e1 k0 k1; have k0 : ∀ v, Later V0 v → ∀ j, v.cell? ⟨gc, j, none⟩ = #[Value.string s1, .slice (some ⟨b, off, none⟩) h1.length c1, .slice a3 z1.length c3][j]? := (fun v hv => block_cell (later_keep (lr.trans (hV0.trans hv)) C0.out)); have k1 : ∀ v, Later V0 v → ∀ j, v.cell? ⟨gc + 1, j, none⟩ = #[Value.string s2, .slice (some ⟨b2, off2, none⟩) h2.length c2, .slice a4 z2.length c4][j]? := (fun v hv => block_cell (later_keep (lr.trans (hV0.trans hv)) C1.out)); refine anyR_val Later.pre 0 rfl (by kernel_rfl) (by kernel_rfl) (by kernel_rfl) (fun _ _ _ _ h => h) rfl ?_; apply Exists.intro; refine ⟨fun v1 hv1 => ?_, ?_⟩; (· (go_simp; rfl)); simp only [Act.put, List.setIfInBounds_toArray, List.set_cons_zero, List.set_cons_succ]; refine anyR_val Later.pre 1 rfl (by kernel_rfl) (by kernel_rfl) (by kernel_rfl) (fun _ _ _ _ h => h) rfl ?_; apply Exists.intro; refine ⟨fun v1 hv1 => ?_, ?_⟩; (· (go_simp; rfl)); simp only [Act.put, List.setIfInBounds_toArray, List.set_cons_zero, List.set_cons_succ]; refine anyR_val Later.pre 2 rfl (by kernel_rfl) (by kernel_rfl) (by kernel_rfl) (fun _ _ _ _ h => h) rfl ?_; apply Exists.intro; refine ⟨fun v1 hv1 => ?_, ?_⟩; (· (go_simp; rfl)); simp only [Act.put, List.setIfInBounds_toArray, List.set_cons_zero, List.set_cons_succ]; refine anyR_val Later.pre 3 rfl (by kernel_rfl) (by kernel_rfl) (by kernel_rfl) (fun _ _ _ _ h => h) rfl ?_; apply Exists.intro; refine ⟨fun v1 hv1 => ?_, ?_⟩; (· (go_simp; rfl)); simp only [Act.put, List.setIfInBounds_toArray, List.set_cons_zero, List.set_cons_succ]; refine anyR_val Later.pre 4 rfl (by kernel_rfl) (by kernel_rfl) (by kernel_rfl) (fun _ _ _ _ h => h) rfl ?_; apply Exists.intro; refine ⟨fun v1 hv1 => ?_, ?_⟩; (· (go_simp; rfl)); simp only [Act.put, List.setIfInBounds_toArray, List.set_cons_zero, List.set_cons_succ]; refine anyR_val Later.pre 5 rfl (by kernel_rfl) (by kernel_rfl) (by kernel_rfl) (fun _ _ _ _ h => h) rfl ?_; apply Exists.intro; refine ⟨fun v1 hv1 => ?_, ?_⟩; (· (go_simp; rfl)); simp only [Act.put, List.setIfInBounds_toArray, List.set_cons_zero, List.set_cons_succ]; refine anyR_val Later.pre 6 rfl (by kernel_rfl) (by kernel_rfl) (by kernel_rfl) (fun _ _ _ _ h => h) rfl ?_; apply Exists.intro; refine ⟨fun v1 hv1 => ?_, ?_⟩; (· (go_simp; rfl)); simp only [Act.put, List.setIfInBounds_toArray, List.set_cons_zero, List.set_cons_succ]; refine anyR_val Later.pre 7 rfl (by kernel_rfl) (by kernel_rfl) (by kernel_rfl) (fun _ _ _ _ h => h) rfl ?_; apply Exists.intro; refine ⟨fun v1 hv1 => ?_, ?_⟩; (· (go_simp; rfl)); simp only [Act.put, List.setIfInBounds_toArray, List.set_cons_zero, List.set_cons_succ]; refine anyR_val Later.pre 8 rfl (by kernel_rfl) (by kernel_rfl) (by kernel_rfl) (fun _ _ _ _ h => h) rfl ?_; apply Exists.intro; refine ⟨fun v1 hv1 => ?_, ?_⟩; (· (go_simp; rfl)); simp only [Act.put, List.setIfInBounds_toArray, List.set_cons_zero, List.set_cons_succ]; refine anyR_val Later.pre 9 rfl (by kernel_rfl) (by kernel_rfl) (by kernel_rfl) (fun _ _ _ _ h => h) rfl ?_; apply Exists.intro; refine ⟨fun v1 hv1 => ?_, ?_⟩; (· (go_simp; rfl)); simp only [Act.put, List.setIfInBounds_toArray, List.set_cons_zero, List.set_cons_succ]; refine anyR_val Later.pre 10 rfl (by kernel_rfl) (by kernel_rfl) (by kernel_rfl) (fun _ _ _ _ h => h) rfl ?_; apply Exists.intro; refine ⟨fun v1 hv1 => ?_, ?_⟩; (· (go_simp; rfl)); simp only [Act.put, List.setIfInBounds_toArray, List.set_cons_zero, List.set_cons_succ]; clear q0 q1 q2 q3 k0 k1; refine anyR_done (by kernel_rfl) (fun V9 hV9 => ?_)
              go_wp2_with fail
              go_ret
              exact ⟨by rw [HVV.out]; rfl, Later.trans hb4 (lr.trans (hV0.trans hV9))⟩
        · obtain rfl : k = h1.length := by omega
          have hnl : ¬ ((h1.length : Nat) : Int) < (h1.length : Int) := by omega
          have HVV : Hid (r = true) := by show _ = _; rw [HV2.out, decide_eq_true_eq]; have := heq.out; rw [List.take_length] at this; rw [this, HNE.out, List.take_length]
          go_wp2_with fail
          go_ret
          exact ⟨by rw [HVV.out]; rfl, Later.trans hb4 lr⟩
end Go.Proofs.YtibjgaelaijgpaaGreatDoor

/- The law's same; the walk of SipParses. -/
namespace Go.Proofs.YtibjgaelaijgpaaGreatDoor
open Go.RowKit Go.Shelf
set_option maxRecDepth 100000
set_option linter.unusedVariables false
set_option linter.unusedSimpArgs false

set_option maxRecDepth 100000 in
set_option maxHeartbeats 4000000 in
theorem lsame14_any (s1 s2 : ByteArray) (v1 v2 b1 b2 : Value) (h1 h2 : List Hr) (z1 z2 : List Int) (w : World) (hH1 : RdM w.heap.size w v1 h1) (hH2 : RdM w.heap.size w v2 h2) (hB1 : Rd w.heap.size w b1 z1) (hB2 : Rd w.heap.size w b2 z2) (hy1 : Mt.By z1) (hy2 : Mt.By z2) (hl : h1.length ≤ 100) :
    Calls Tryz.prog 10 #[.agg #[.string s1, v1, b1], .agg #[.string s2, v2, b2]] w fun e w' => e = .returned (.bool (smM s1 s2 h1 h2 z1 z2)) ∧ Later w w' := by
  obtain ⟨a1, c1, rfl, _, _⟩ := hH1.slice
  obtain ⟨a2, c2, rfl, _, _⟩ := hH2.slice
  obtain ⟨a3, c3, rfl, _, _⟩ := hB1.slice
  obtain ⟨a4, c4, rfl, _, _⟩ := hB2.slice
  have hb4 : Later w ((w.alloc (.cells #[.string s1, .slice a1 h1.length c1, .slice a3 z1.length c3] 25)).alloc (.cells #[.string s2, .slice a2 h2.length c2, .slice a4 z2.length c4] 34)) := ((Below.refl _ _).alloc (Nat.le_refl _) _).alloc (by simp) _
  have C0 := hide (show ((w.alloc (.cells #[.string s1, .slice a1 h1.length c1, .slice a3 z1.length c3] 25)).alloc (.cells #[.string s2, .slice a2 h2.length c2, .slice a4 z2.length c4] 34)).heap[w.heap.size]? = some (.cells #[.string s1, .slice a1 h1.length c1, .slice a3 z1.length c3] 25) from (Below.heap_alloc _ _ _ (by simp)).trans (heap_alloc_new w _))
  have C1 : Hid (((w.alloc (.cells #[.string s1, .slice a1 h1.length c1, .slice a3 z1.length c3] 25)).alloc (.cells #[.string s2, .slice a2 h2.length c2, .slice a4 z2.length c4] 34)).heap[w.heap.size + 1]? = some (.cells #[.string s2, .slice a2 h2.length c2, .slice a4 z2.length c4] 34)) := by
    have := heap_alloc_new (w.alloc (.cells #[.string s1, .slice a1 h1.length c1, .slice a3 z1.length c3] 25)) (.cells #[.string s2, .slice a2 h2.length c2, .slice a4 z2.length c4] 34)
    rw [World.size_alloc] at this
    exact this
  have HRF := hide (fun W (l : Later w W) => ref_any s1 _ _ h1 z1 W (hH1.later l) (hB1.later l) hl)
  have HSA := hide (fun W v (l : Later w W) (h : RdM W.heap.size W v h1) => rsame14_any s1 s2 v _ _ _ h1 h2 z1 z2 W h (hH2.later l) (hB1.later l) (hB2.later l) hy1 hy2)
  generalize smM s1 s2 h1 h2 z1 z2 = r at *
  clear hH1 hH2 hB1 hB2 hy1 hy2
  go_enter Tryz.func10, Tryz.ntmps10
  go_upto_region 1 with fail
  generalize (w.alloc (.cells #[.string s1, .slice a1 h1.length c1, .slice a3 z1.length c3] 25)).alloc (.cells #[.string s2, .slice a2 h2.length c2, .slice a4 z2.length c4] 34) = w4 at *
  generalize w.heap.size = gc at C0 C1 ⊢
  refine anyR_begin (R := Later) Later.pre Later.drew 5 rfl (by kernel_rfl) (fun V0 hV0 => ?_)
  have LV : Later w V0 := Later.trans hb4 hV0
  have k0 : ∀ u, Later V0 u → ∀ j, u.cell? ⟨gc, j, none⟩ = (#[.string s1, .slice a1 h1.length c1, .slice a3 z1.length c3] : Array Value)[j]? := fun u hu => block_cell (later_keep (hV0.trans hu) C0.out)
  have k1 : ∀ u, Later V0 u → ∀ j, u.cell? ⟨gc + 1, j, none⟩ = (#[.string s2, .slice a2 h2.length c2, .slice a4 z2.length c4] : Array Value)[j]? := fun u hu => block_cell (later_keep (hV0.trans hu) C1.out)
  refine anyR_val Later.pre 0 rfl (by kernel_rfl) (by kernel_rfl) (by kernel_rfl) (fun _ _ _ _ h => h) rfl ?_; apply Exists.intro; refine ⟨fun v1 hv1 => ?_, ?_⟩; (· (go_simp; rfl)); simp only [Act.put, List.setIfInBounds_toArray, List.set_cons_zero, List.set_cons_succ]
  refine anyR_val Later.pre 2 rfl (by kernel_rfl) (by kernel_rfl) (by kernel_rfl) (fun _ _ _ _ h => h) rfl ?_; apply Exists.intro; refine ⟨fun v1 hv1 => ?_, ?_⟩; (· (go_simp; rfl)); simp only [Act.put, List.setIfInBounds_toArray, List.set_cons_zero, List.set_cons_succ]
  clear k0 k1
  refine anyR_one 1 rfl (by kernel_rfl) (by rfl) (fun V1 hV1 => ?_)
  refine wp_enter 5 #[.agg #[.string s1, .slice a1 h1.length c1, .slice a3 z1.length c3]] (by go_simp) ((HRF.out V1 (LV.trans hV1)).mono ?_)
  rintro e V2 ⟨k2, vh, rfl, hrow⟩
  obtain ⟨va, vc, rfl⟩ := owns_form hrow
  refine ⟨k2, ?_⟩
  simp only [Act.put, List.setIfInBounds_toArray, List.set_cons_zero, List.set_cons_succ]
  have HI := hide (ownR_rd hrow)
  clear hrow
  refine anyR_take Later.pre 3 (.bool r) rfl (by kernel_rfl) (by kernel_rfl) (by kernel_rfl) (fun _ _ _ h => h) rfl (fun u hu => goes_call 20 #[.agg #[.string s1, .slice va h1.length vc, .slice a3 z1.length c3], .agg #[.string s2, .slice a2 h2.length c2, .slice a4 z2.length c4]] (by go_simp) (HSA.out u _ (LV.trans (hV1.trans (k2.trans hu))) (HI.out.later hu))) ?_
  simp only [Act.put, List.setIfInBounds_toArray, List.set_cons_zero, List.set_cons_succ]
  refine anyR_val Later.pre 4 rfl (by kernel_rfl) (by kernel_rfl) (by kernel_rfl) (fun _ _ _ _ h => h) rfl ?_; apply Exists.intro; refine ⟨fun v1 hv1 => ?_, ?_⟩; (· (go_simp; rfl)); simp only [Act.put, List.setIfInBounds_toArray, List.set_cons_zero, List.set_cons_succ]
  refine anyR_done (by kernel_rfl) (fun V9 hV9 => ?_)
  have L9 : Later w V9 := LV.trans (hV1.trans (k2.trans hV9))
  go_wp2_with fail
  go_ret
  exact ⟨rfl, L9⟩
end Go.Proofs.YtibjgaelaijgpaaGreatDoor

/- The law's media; the walk of SipRewrites. -/
namespace Go.Proofs.YtibjgaelaijgpaaGreatDoor
open Go.RowKit Go.Shelf
set_option maxRecDepth 100000
set_option linter.unusedVariables false
set_option linter.unusedSimpArgs false

theorem info_medR : (Tryz.prog.info? 56).map (fun i => (i.zero, i.size, i.bytes)) = some (some (.agg #[.int .u16 0, .int .u16 0]), 2, 4) := by kernel_rfl
/-- Media as cells. -/
def pvs (l : List (Int × Int)) : List Value := l.flatMap fun m => [.int .u16 m.1, .int .u16 m.2]
theorem pvs_len (l : List (Int × Int)) : (pvs l).length = l.length * 2 := by
  unfold pvs
  induction l with
  | nil => rfl
  | cons a l ih => rw [List.flatMap_cons, List.length_append, ih, List.length_cons]; simp; omega
theorem pvs_snoc (l : List (Int × Int)) (m : Int × Int) : pvs (l ++ [m]) = pvs l ++ [.int .u16 m.1, .int .u16 m.2] := by unfold pvs; simp
theorem pvs_at : ∀ (l : List (Int × Int)) (j : Nat) (hj : j < l.length), (pvs l)[j * 2]? = some (.int .u16 l[j].1) ∧ (pvs l)[j * 2 + 1]? = some (.int .u16 l[j].2)
  | [], j, hj => by cases hj
  | a :: l, 0, hj => ⟨rfl, rfl⟩
  | a :: l, j + 1, hj => by
    have ih := pvs_at l j (by simpa using hj)
    have e : pvs (a :: l) = .int .u16 a.1 :: .int .u16 a.2 :: pvs l := rfl
    rw [e, show (j + 1) * 2 = j * 2 + 1 + 1 from by omega]
    simp only [List.getElem?_cons_succ, List.getElem_cons_succ]
    exact ih
theorem ownP_rd {base : Nat} {W : World} {v : Value} {l : List (Int × Int)} {T : TypeId} (h : W.ownsRow base T 2 v l.length (pvs l)) : RdP2 W.heap.size W v l := by
  obtain ⟨h1, ⟨rfl, h0⟩ | ⟨g, cap, cur, rfl, hg, hh, hl, hm, hs, hc⟩⟩ := h
  · exact .inl ⟨none, 0, rfl, List.eq_nil_of_length_eq_zero h0, by omega⟩
  · unfold maxLen at hm
    by_cases hn : l = []
    · subst hn; exact .inl ⟨_, cap, rfl, rfl, hm⟩
    · refine .inr ⟨g, 0, cap, rfl, hn, hl, hm, (Array.getElem?_eq_some_iff.1 hh).1, fun j hj => ?_⟩
      have hp := pvs_len l
      rw [Nat.zero_add, block_cell hh, block_cell hh]
      have ha := pvs_at l j hj
      rw [← hc] at ha
      rw [List.getElem?_take_of_lt (by omega), List.getElem?_take_of_lt (by omega)] at ha
      simpa using ha

set_option maxRecDepth 100000 in
set_option maxHeartbeats 8000000 in
theorem lmedia_any (mv : Value) (l : List (Int × Int)) (w : World) (hI : RdP2 w.heap.size w mv l) (hl : l.length * 4 ≤ 140737488355328) :
    Calls Tryz.prog 8 #[mv] w fun e w' => Later w w' ∧ ∃ v, e = .returned v ∧ RdP2 w'.heap.size w' v l := by
  obtain ⟨ma, mc, rfl, hmc1, hmc2⟩ := hI.slice
  obtain ⟨i0, hi0, hz0, hz1, hz2⟩ := info_partsS info_medR
  have hlI : (l.length : Int) ≤ 9223372036854775807 := by omega
  go_enter Tryz.func8, Tryz.ntmps8
  go_upto_region 3 with fail
  go_loopw [3, 4] (fun ov iv wr => ∃ k : Nat, k ≤ l.length ∧ iv = .int .i64 (k : Int) ∧ Below w.heap.size w wr ∧ (∃ v, ov = v ∧ Hid (wr.ownsRow w.heap.size 56 2 v k (pvs (l.take k))))) (fun _ iv _ => l.length - (intOf iv).toNat)
  case atStart => exact ⟨0, by omega, rfl, Below.refl _ _, .slice none 0 0, rfl, hide ⟨rfl, .inl ⟨rfl, rfl⟩⟩⟩
  case round =>
    obtain ⟨k, hk, rfl, M1, v, rfl, HO⟩ := hrel
    obtain ⟨oa, oc, rfl⟩ := owns_form HO.out
    by_cases hlt : k < l.length
    · have hlt' : (k : Int) < (l.length : Int) := by omega
      have htk : l.take (k + 1) = l.take k ++ [l[k]] := by rw [← List.take_append_getElem hlt]
      have HTK : Hid (pvs (l.take (k + 1)) = pvs (l.take k) ++ [.int .u16 l[k].1, .int .u16 l[k].2]) := by (show _ = _); rw [htk, pvs_snoc]
      obtain ⟨a, cap, e, e2, _⟩ | ⟨b, off, cp, e, _, _, _, hbn, hcs⟩ := hI.below M1
      · rw [e2] at hlt; simp at hlt
      cases e
      obtain ⟨d0, d1⟩ := hcs k hlt
      clear hcs htk
      generalize l[k] = m at *
      obtain ⟨m1, m2⟩ := m
      simp only at d0 d1 HTK
      go_upto_region 5 with fail
      refine anyT_begin (R := Below w.heap.size) 15 rfl (by kernel_rfl) ?_
      have hdr : Later wr wr.drew := Later.drew wr
      have M2 : Below w.heap.size w wr.drew := M1.trans (hdr.mono M1.size)
      have HO2 := hide (ownsS_ct HO.out (CTs.of hdr))
      have d02 := hdr.cell d0
      have d12 := hdr.cell d1
      generalize wr.drew = w2 at *
      clear hdr d0 d1
      have hs2 := M2.size
      have q0 : ∀ v1, Below w.heap.size w2 v1 → v1.cell? ⟨b, off + k * 2, none⟩ = some (.int .u16 m1) := fun v1 h => (h.cell (p := ⟨b, off + k * 2, none⟩) hbn).trans d02
      have q1 : ∀ v1, Below w.heap.size w2 v1 → v1.cell? ⟨b, off + k * 2 + 1, none⟩ = some (.int .u16 m2) := fun v1 h => (h.cell (p := ⟨b, off + k * 2 + 1, none⟩) hbn).trans d12
      refine anyT_val (⟨fun A => Below.refl _ _, fun A B C h k => h.trans k⟩ : Pre (Below w.heap.size)) 0 rfl (by kernel_rfl) (by kernel_rfl) (by kernel_rfl) (fun _ _ _ _ h => h) rfl ?_; apply Exists.intro; refine ⟨fun v1 hv1 => ?_, ?_⟩; (· (go_simp; rfl)); simp only [Act.put, List.setIfInBounds_toArray, List.set_cons_zero, List.set_cons_succ]
      refine anyT_val (⟨fun A => Below.refl _ _, fun A B C h k => h.trans k⟩ : Pre (Below w.heap.size)) 1 rfl (by kernel_rfl) (by kernel_rfl) (by kernel_rfl) (fun _ _ _ _ h => h) rfl ?_; apply Exists.intro; refine ⟨fun v1 hv1 => ?_, ?_⟩; (· (go_simp; rfl)); simp only [Act.put, List.setIfInBounds_toArray, List.set_cons_zero, List.set_cons_succ]
      refine anyT_val (⟨fun A => Below.refl _ _, fun A B C h k => h.trans k⟩ : Pre (Below w.heap.size)) 2 rfl (by kernel_rfl) (by kernel_rfl) (by kernel_rfl) (fun _ _ _ _ h => h) rfl ?_; apply Exists.intro; refine ⟨fun v1 hv1 => ?_, ?_⟩; (· (go_simp; rfl)); simp only [Act.put, List.setIfInBounds_toArray, List.set_cons_zero, List.set_cons_succ]
      refine anyT_val (⟨fun A => Below.refl _ _, fun A B C h k => h.trans k⟩ : Pre (Below w.heap.size)) 3 rfl (by kernel_rfl) (by kernel_rfl) (by kernel_rfl) (fun _ _ _ _ h => h) rfl ?_; apply Exists.intro; refine ⟨fun v1 hv1 => ?_, ?_⟩; (· (go_simp; rfl)); simp only [Act.put, List.setIfInBounds_toArray, List.set_cons_zero, List.set_cons_succ]
      refine anyT_val (⟨fun A => Below.refl _ _, fun A B C h k => h.trans k⟩ : Pre (Below w.heap.size)) 4 rfl (by kernel_rfl) (by kernel_rfl) (by kernel_rfl) (fun _ _ _ _ h => h) rfl ?_; apply Exists.intro; refine ⟨fun v1 hv1 => ?_, ?_⟩; (· (go_simp; rfl)); simp only [Act.put, List.setIfInBounds_toArray, List.set_cons_zero, List.set_cons_succ]
      refine anyT_val (⟨fun A => Below.refl _ _, fun A B C h k => h.trans k⟩ : Pre (Below w.heap.size)) 5 rfl (by kernel_rfl) (by kernel_rfl) (by kernel_rfl) (fun _ _ _ _ h => h) rfl ?_; apply Exists.intro; refine ⟨fun v1 hv1 => ?_, ?_⟩; (· (go_simp; rfl)); simp only [Act.put, List.setIfInBounds_toArray, List.set_cons_zero, List.set_cons_succ]
      refine anyT_val (⟨fun A => Below.refl _ _, fun A B C h k => h.trans k⟩ : Pre (Below w.heap.size)) 6 rfl (by kernel_rfl) (by kernel_rfl) (by kernel_rfl) (fun _ _ _ _ h => h) rfl ?_; apply Exists.intro; refine ⟨fun v1 hv1 => ?_, ?_⟩; (· (go_simp; rfl)); simp only [Act.put, List.setIfInBounds_toArray, List.set_cons_zero, List.set_cons_succ]
      refine anyT_val (⟨fun A => Below.refl _ _, fun A B C h k => h.trans k⟩ : Pre (Below w.heap.size)) 7 rfl (by kernel_rfl) (by kernel_rfl) (by kernel_rfl) (fun _ _ _ _ h => h) rfl ?_; apply Exists.intro; refine ⟨fun v1 hv1 => ?_, ?_⟩; (· (go_simp; rfl)); simp only [Act.put, List.setIfInBounds_toArray, List.set_cons_zero, List.set_cons_succ]
      refine anyT_val (⟨fun A => Below.refl _ _, fun A B C h k => h.trans k⟩ : Pre (Below w.heap.size)) 8 rfl (by kernel_rfl) (by kernel_rfl) (by kernel_rfl) (fun _ _ _ _ h => h) rfl ?_; apply Exists.intro; refine ⟨fun v1 hv1 => ?_, ?_⟩; (· (go_simp; rfl)); simp only [Act.put, List.setIfInBounds_toArray, List.set_cons_zero, List.set_cons_succ]
      refine anyT_val (⟨fun A => Below.refl _ _, fun A B C h k => h.trans k⟩ : Pre (Below w.heap.size)) 9 rfl (by kernel_rfl) (by kernel_rfl) (by kernel_rfl) (fun _ _ _ _ h => h) rfl ?_; apply Exists.intro; refine ⟨fun v1 hv1 => ?_, ?_⟩; (· (go_simp; rfl)); simp only [Act.put, List.setIfInBounds_toArray, List.set_cons_zero, List.set_cons_succ]
      refine anyT_val (⟨fun A => Below.refl _ _, fun A B C h k => h.trans k⟩ : Pre (Below w.heap.size)) 10 rfl (by kernel_rfl) (by kernel_rfl) (by kernel_rfl) (fun _ _ _ _ h => h) rfl ?_; apply Exists.intro; refine ⟨fun v1 hv1 => ?_, ?_⟩; (· (go_simp; rfl)); simp only [Act.put, List.setIfInBounds_toArray, List.set_cons_zero, List.set_cons_succ]
      refine anyT_val (⟨fun A => Below.refl _ _, fun A B C h k => h.trans k⟩ : Pre (Below w.heap.size)) 11 rfl (by kernel_rfl) (by kernel_rfl) (by kernel_rfl) (fun _ _ _ _ h => h) rfl ?_; apply Exists.intro; refine ⟨fun v1 hv1 => ?_, ?_⟩; (· (go_simp; rfl)); simp only [Act.put, List.setIfInBounds_toArray, List.set_cons_zero, List.set_cons_succ]
      clear q0 q1 d02 d12
      have la := later_allocR w2 (.cells #[.int .u16 m1, .int .u16 m2] 56)
      have HNW := heap_alloc_new w2 (.cells #[.int .u16 m1, .int .u16 m2] 56)
      have hnk := block_cell HNW
      have HO5 := ownsS_ct HO2.out (CTs.of la)
      obtain ⟨v', W2, hrun, hrow, hg, _⟩ := run_append_own (P := Tryz.prog) (w2.alloc (.cells #[.int .u16 m1, .int .u16 m2] 56)) w.heap.size 38 38 56 i0 (.agg #[.int .u16 0, .int .u16 0]) 2 4 Tryz.underlying38 hi0 hz0 hz1 hz2 rfl (by decide) (.slice oa k oc) k (pvs (l.take k)) HO5 ⟨w2.heap.size, 0, none⟩ 1 1 [.int .u16 m1, .int .u16 m2] rfl
        (fun j u hj => by
          rw [show (⟨w2.heap.size, 0, none⟩ : Addr).add j = ⟨w2.heap.size, 0 + j, none⟩ from by unfold Addr.add; split <;> simp_all]
          rw [Nat.zero_add, hnk j, ← hj]; simp)
        (by intro u hu; simp at hu; rcases hu with rfl | rfl <;> rfl) (by unfold maxLen; omega) (by omega) (Nat.le_trans hs2 la.size)
      obtain ⟨a2, cp2, rfl⟩ := owns_form hrow
      have B1 : Below w.heap.size w2 (w2.alloc (.cells #[.int .u16 m1, .int .u16 m2] 56)) := la.mono hs2
      have B2 : Below w.heap.size (w2.alloc (.cells #[.int .u16 m1, .int .u16 m2] 56)) W2 := grow_below HO5 hg (Nat.le_trans hs2 la.size)
      have HROW : Hid (W2.ownsRow w.heap.size 56 2 (.slice a2 (k + 1) cp2) (k + 1) (pvs (l.take (k + 1)))) := by (show World.ownsRow _ _ _ _ _ _ _); rw [HTK.out]; exact hrow
      have HB1 := hide B1
      have HB2 := hide B2
      have HRUN := hide hrun
      clear hnk HNW hrow hg HO5 B1 B2 hrun la
      refine anyT_one 12 rfl (by kernel_rfl) rfl ?_
      unfold Oper.wp
      go_simp
      refine ⟨HB1.out, ?_⟩
      refine anyT_one 13 rfl (by kernel_rfl) rfl ?_
      refine wp_app (.tmp 11) (.tmp 23) 38 rfl _ _ rfl rfl _ W2 HRUN.out ⟨HB2.out, ?_⟩
      simp only [Act.put, List.setIfInBounds_toArray, List.set_cons_zero, List.set_cons_succ]
      have M3 : Below w.heap.size w W2 := M2.trans (HB1.out.trans HB2.out)
      clear HRUN HB1 HB2 M2
      refine anyT_val (⟨fun A => Below.refl _ _, fun A B C h k => h.trans k⟩ : Pre (Below w.heap.size)) 14 rfl (by kernel_rfl) (by kernel_rfl) (by kernel_rfl) (fun _ _ _ _ h => h) rfl ?_; apply Exists.intro; refine ⟨fun v1 hv1 => ?_, ?_⟩; (· (go_simp; rfl)); simp only [Act.put, List.setIfInBounds_toArray, List.set_cons_zero, List.set_cons_succ]
      refine anyT_done (by kernel_rfl) ?_
      go_wp2_with fail
      go_roundw
      case rel => exact ⟨k + 1, by omega, by go_num, M3, _, rfl, HROW⟩
      case measure => simp [intOf]; omega
    · have hnl : ¬ (k : Int) < (l.length : Int) := by omega
      have hkk : k = l.length := by omega
      have HR : Hid (RdP2 wr.heap.size wr (.slice oa k oc) l) := by
        have := HO.out
        rw [hkk, List.take_length] at this
        rw [hkk]
        exact ownP_rd this
      clear hkk HO
      go_wp2_with fail
      go_ret
      exact ⟨M1, _, rfl, HR.out⟩
end Go.Proofs.YtibjgaelaijgpaaGreatDoor

/- The walk of SipRewrites. -/
namespace Go.Proofs.YtibjgaelaijgpaaGreatDoor
open Go.RowKit Go.Shelf
set_option maxRecDepth 100000
set_option linter.unusedVariables false
set_option linter.unusedSimpArgs false

theorem rwZb_by {c : Cg} {st : ByteArray} {hs : List Hr} {zb : List Int} (h : Mt.By zb) : Mt.By (rwZb c st hs zb) := by
  unfold rwZb
  split
  · exact nmsB_by _
  · exact h
theorem cg_wfR {h t p q : Int} {ml : List (Int × Int)} (hh : 0 ≤ h ∧ h ≤ 4294967295) (ht : 0 ≤ t ∧ t ≤ 4294967295) (hp : 0 ≤ p ∧ p ≤ 65535) (hq : 0 ≤ q ∧ q ≤ 65535) (hm : ∀ m ∈ ml, (0 ≤ m.1 ∧ m.1 ≤ 65535) ∧ (0 ≤ m.2 ∧ m.2 ≤ 65535)) : (cgOf h t p q ml).wf :=
  ⟨⟨by have := adB_size h hh; show (adB h).size ≤ _; omega, by have := adB_size t ht; show (adB t).size ≤ _; omega⟩, hp, hq, hm⟩

set_option maxRecDepth 100000 in
set_option maxHeartbeats 16000000 in
theorem walk_SipRewrites (w : World) (hT : TabI w) (hM : TabM w) (st : ByteArray) (sv sb : Value) (hs : List Hr) (zb : List Int) (hy : Mt.By zb) (hH : RdM w.heap.size w sv hs) (hB : Rd w.heap.size w sb zb)
    (hz : st.size ≤ 140737488351232 ∧ (∀ o ∈ hs, o.1.size ≤ 140737488351232 ∧ o.2.size ≤ 140737488351232) ∧ hs.length ≤ 140737488351232 ∧ zb.length ≤ 140737488351232)
    (h t p q : Int) (mv : Value) (ml : List (Int × Int)) (hh : 0 ≤ h ∧ h ≤ 4294967295) (ht : 0 ≤ t ∧ t ≤ 4294967295) (hp : 0 ≤ p ∧ p ≤ 65535) (hq : 0 ≤ q ∧ q ≤ 65535) (hI : RdP2 w.heap.size w mv ml) (hm : ∀ m ∈ ml, (0 ≤ m.1 ∧ m.1 ≤ 65535) ∧ (0 ≤ m.2 ∧ m.2 ≤ 65535)) (hml : ml.length * 4 ≤ 140737488351232) :
    Calls Tryz.prog 3 #[.agg #[.string st, sv, sb], .agg #[.int .u32 h, .int .u32 t, .int .u16 p, .int .u16 q, mv]] w fun e w' => e = .returned (.bool true) ∧ Below w.heap.size w w' := by
  obtain ⟨sa, scp, rfl, _, _⟩ := hH.slice
  obtain ⟨ba, bcp, rfl, _, _⟩ := hB.slice
  obtain ⟨ma, mc, rfl, _, _⟩ := hI.slice
  obtain ⟨hz1, hz2, _, hz3⟩ := hz
  obtain ⟨hzz, hl100, hzo⟩ := szM_few2 (n := zb.length) hz1 hz2 hz3
  obtain ⟨p, rfl⟩ : ∃ k : Nat, p = (k : Int) := ⟨p.toNat, by omega⟩
  obtain ⟨q, rfl⟩ : ∃ k : Nat, q = (k : Int) := ⟨q.toNat, by omega⟩
  have hb4 : Later w ((w.alloc (.cells #[.string st, .slice sa hs.length scp, .slice ba zb.length bcp] 25)).alloc (.cells #[.int .u32 h, .int .u32 t, .int .u16 p, .int .u16 q, .slice ma ml.length mc] 30)) := ((Below.refl _ _).alloc (Nat.le_refl _) _).alloc (by simp) _
  have C0 := hide (show ((w.alloc (.cells #[.string st, .slice sa hs.length scp, .slice ba zb.length bcp] 25)).alloc (.cells #[.int .u32 h, .int .u32 t, .int .u16 p, .int .u16 q, .slice ma ml.length mc] 30)).heap[w.heap.size]? = some (.cells #[.string st, .slice sa hs.length scp, .slice ba zb.length bcp] 25 (0, 0)) from (Below.heap_alloc _ _ _ (by simp)).trans (heap_alloc_new w _))
  have C1 : Hid (((w.alloc (.cells #[.string st, .slice sa hs.length scp, .slice ba zb.length bcp] 25)).alloc (.cells #[.int .u32 h, .int .u32 t, .int .u16 p, .int .u16 q, .slice ma ml.length mc] 30)).heap[w.heap.size + 1]? = some (.cells #[.int .u32 h, .int .u32 t, .int .u16 p, .int .u16 q, .slice ma ml.length mc] 30 (0, 0))) := by
    have := heap_alloc_new (w.alloc (.cells #[.string st, .slice sa hs.length scp, .slice ba zb.length bcp] 25)) (.cells #[.int .u32 h, .int .u32 t, .int .u16 p, .int .u16 q, .slice ma ml.length mc] 30)
    rw [World.size_alloc] at this
    exact this
  have HFW := hide (few_any st _ _ hs zb _ (hH.later hb4) (hB.later hb4))
  generalize hs.take 100 = hl at *
  have hc := cg_wfR hh ht hp hq hm
  have hst : st.size ≤ 140737488355328 := by omega
  have HRF := hide (fun W sv2 (l : Later w W) (hI2 : RdM W.heap.size W sv2 hl) => ref_any st sv2 (.slice ba zb.length bcp) hl zb W hI2 (hB.later l) hl100)
  have HRW := hide (fun W sv2 (l : Later w W) (hI2 : RdM W.heap.size W sv2 hl) => rewriteL_any h t p q ml (.slice ma ml.length mc) st sv2 (.slice ba zb.length bcp) hl zb W (hT.later l) (hM.later l) hh ht hc (hI.later l) hI2 (hB.later l) (by omega) (by omega) hzz)
  have HMD := hide (fun W (l : Later w W) => lmedia_any (.slice ma ml.length mc) ml W (hI.later l) (by omega))
  have HRD := hide (fun W sv2 mv2 (l : Later w W) (hI2 : RdM W.heap.size W sv2 hl) (hI3 : RdP2 W.heap.size W mv2 ml) => rrewrite14_any h t p q ml mv2 st sv2 (.slice ba zb.length bcp) hl zb W hh ht (by omega) (by omega) hc hI3 hI2 (hB.later l) hy (by omega) (by omega) hzz ⟨hst, hzo⟩)
  have HL := hide (fun W (l : Later w W) => live14_any W (hT.later l) (hM.later l))
  have HBB := hide (fun W (l : Later w W) => hB.later l)
  have hnl := (rwHs_names (cgOf h t p q ml) st hl zb).1
  have hry := rwZb_by (c := cgOf h t p q ml) (st := st) (hs := hl) hy
  generalize rwHs (cgOf h t p q ml) st hl zb = rh at *
  generalize rwZb (cgOf h t p q ml) st hl zb = rz at *
  have HS1 := hide (fun W v1 v2 b1 b2 (q1 : RdM W.heap.size W v1 rh) (q2 : RdM W.heap.size W v2 rh) (q3 : Rd W.heap.size W b1 rz) (q4 : Rd W.heap.size W b2 rz) => lsame14_any st st v1 v2 b1 b2 rh rh rz rz W q1 q2 q3 q4 hry hry (by omega))
  have HS2 := hide (fun W v1 v2 b1 b2 (q1 : RdM W.heap.size W v1 hl) (q2 : RdM W.heap.size W v2 hl) (q3 : Rd W.heap.size W b1 zb) (q4 : Rd W.heap.size W b2 zb) => lsame14_any st st v1 v2 b1 b2 hl hl zb zb W q1 q2 q3 q4 hy hy hl100)
  simp only [smM_self] at HS1 HS2
  clear hc hnl hry hzo hzz hz2 hm
  go_enter Tryz.func3, Tryz.ntmps3
  go_upto_region 1 with fail
  generalize (w.alloc (.cells #[.string st, .slice sa hs.length scp, .slice ba zb.length bcp] 25)).alloc (.cells #[.int .u32 h, .int .u32 t, .int .u16 p, .int .u16 q, .slice ma ml.length mc] 30) = w0 at *
  generalize w.heap.size = gm at C0 C1 ⊢
  have k0 := block_cell C0.out
  go_wp2_with fail
  refine HFW.out.mono ?_
  rintro e w1 ⟨l1, sv2, rfl, hI1⟩
  obtain ⟨a2, c2, rfl, hc21, hc22⟩ := hI1.slice
  clear k0 HFW
  have la := later_allocR w1 (.cells #[.string st, .slice a2 hl.length c2, .slice ba zb.length bcp] 25)
  have D5 := hide (heap_alloc_new w1 (.cells #[.string st, .slice a2 hl.length c2, .slice ba zb.length bcp] 25))
  have HI := hide ((hI1.later l1).later la)
  go_upto_region 2 with fail
  have L2 : Later w (w1.alloc (.cells #[.string st, .slice a2 hl.length c2, .slice ba zb.length bcp] 25)) := (Later.trans hb4 l1).trans la
  have D1 := hide (later_keep (Later.trans l1 la) C1.out)
  change Code.wp _ _ _ _ (w1.alloc (.cells #[.string st, .slice a2 hl.length c2, .slice ba zb.length bcp] 25))
  generalize w1.alloc (.cells #[.string st, .slice a2 hl.length c2, .slice ba zb.length bcp] 25) = w2 at *
  generalize w1.heap.size = g5 at *
  clear hI1 la l1 C0 C1
  have k5 := block_cell D5.out
  go_wp2_with fail
  refine (HRF.out w2 _ L2 HI.out).mono ?_
  rintro e w3 ⟨l3, vh, rfl, hrow⟩
  obtain ⟨va, vc, rfl⟩ := owns_form hrow
  clear k5 HRF
  have la := later_allocR w3 (.cells #[.string st, .slice va hl.length vc, .slice ba zb.length bcp] 34)
  have D6 := hide (heap_alloc_new w3 (.cells #[.string st, .slice va hl.length vc, .slice ba zb.length bcp] 34))
  have HR6 := hide ((ownR_rd hrow).later la)
  go_upto_region 3 with fail
  have F5 := hide (later_keep (Later.trans l3 la) D5.out)
  have F1 := hide (later_keep (Later.trans l3 la) D1.out)
  have HI5 := hide (HI.out.later (Later.trans l3 la))
  have L4 : Later w (w3.alloc (.cells #[.string st, .slice va hl.length vc, .slice ba zb.length bcp] 34)) := L2.trans (Later.trans l3 la)
  change Code.wp _ _ _ _ (w3.alloc (.cells #[.string st, .slice va hl.length vc, .slice ba zb.length bcp] 34))
  generalize w3.alloc (.cells #[.string st, .slice va hl.length vc, .slice ba zb.length bcp] 34) = w4 at *
  generalize w3.heap.size = g6 at *
  clear hrow la l3 D5 D1 HI L2
  have k5 := block_cell F5.out
  have k1 := block_cell F1.out
  go_wp2_with fail
  refine (HRW.out w4 _ L4 HI5.out).mono ?_
  rintro e w5 ⟨l5, vh, vb, rfl, hrow, hO⟩
  obtain ⟨na, nc, rfl⟩ := owns_form hrow
  obtain ⟨xa, xc, rfl, _, _⟩ := hO.slice
  clear k5 k1 HRW
  have la := later_allocR w5 (.cells #[.string st, .slice na rh.length nc, .slice xa rz.length xc] 25)
  have D7 := hide (heap_alloc_new w5 (.cells #[.string st, .slice na rh.length nc, .slice xa rz.length xc] 25))
  have HN7 := hide ((ownM_rd hrow).later la)
  have HB7 := hide (hO.rd.later la)
  go_upto_region 4 with fail
  have E5 := hide (later_keep (Later.trans l5 la) F5.out)
  have E1 := hide (later_keep (Later.trans l5 la) F1.out)
  have E6 := hide (later_keep (Later.trans l5 la) D6.out)
  have HI6 := hide (HI5.out.later (Later.trans l5 la))
  have HR7 := hide (HR6.out.later (Later.trans l5 la))
  have L6 : Later w (w5.alloc (.cells #[.string st, .slice na rh.length nc, .slice xa rz.length xc] 25)) := L4.trans (Later.trans l5 la)
  change Code.wp _ _ _ _ (w5.alloc (.cells #[.string st, .slice na rh.length nc, .slice xa rz.length xc] 25))
  generalize w5.alloc (.cells #[.string st, .slice na rh.length nc, .slice xa rz.length xc] 25) = w6 at *
  generalize w5.heap.size = g7 at *
  clear hrow hO la l5 F5 F1 D6 HI5 HR6 L4
  go_cut [8] (fun v wx => ∃ gn va vc xa xc, v = .pointer (some ⟨gn, 0, none⟩) ∧ Hid (Later w6 wx) ∧ Hid (wx.heap[gn]? = some (.cells #[.string st, .slice va rh.length vc, .slice xa rz.length xc] 34 (0, 0))) ∧ Hid (RdM wx.heap.size wx (.slice va rh.length vc) rh) ∧ Hid (Rd wx.heap.size wx (.slice xa rz.length xc) rz))
  case first =>
    refine wp_calmS ?_
    refine anyU_begin (R1 := Later) (R2 := fun _ _ => True) (D := [14]) 15 rfl (by kernel_rfl) ?_
    have ld : Later w6 w6.drew := Later.drew w6
    generalize w6.drew = Wd at *
    have LWd : Later w Wd := Later.trans L6 ld
    have hsd := ld.size
    have q6 : ∀ v1, Later Wd v1 → ∀ j, v1.cell? ⟨g6, j, none⟩ = #[.string st, .slice va hl.length vc, .slice ba zb.length bcp][j]? := fun v1 hv => block_cell (later_keep (ld.trans hv) E6.out)
    have q1 : ∀ v1, Later Wd v1 → ∀ j, v1.cell? ⟨gm + 1, j, none⟩ = #[.int .u32 h, .int .u32 t, .int .u16 (p : Int), .int .u16 (q : Int), .slice ma ml.length mc][j]? := fun v1 hv => block_cell (later_keep (ld.trans hv) E1.out)
    refine anyU_val Later.pre 0 [12, 14] rfl (by rfl) (by rfl) (by kernel_rfl) (by kernel_rfl) (by kernel_rfl) (by kernel_rfl) (by kernel_rfl) (fun _ _ _ _ h => by cases h.1) (by rfl) ?_; apply Exists.intro; refine ⟨fun v1 hv1 => ?_, ?_⟩; (· (go_simp; rfl)); simp only [Act.put, List.setIfInBounds_toArray, List.set_cons_zero, List.set_cons_succ]
    refine anyU_val Later.pre 1 [2, 12, 14] rfl (by rfl) (by rfl) (by kernel_rfl) (by kernel_rfl) (by kernel_rfl) (by kernel_rfl) (by kernel_rfl) (fun _ _ _ _ h => by cases h.1) (by rfl) ?_; apply Exists.intro; refine ⟨fun v1 hv1 => ?_, ?_⟩; (· (go_simp; rfl)); simp only [Act.put, List.setIfInBounds_toArray, List.set_cons_zero, List.set_cons_succ]
    refine anyU_val Later.pre 2 [12, 14] rfl (by rfl) (by rfl) (by kernel_rfl) (by kernel_rfl) (by kernel_rfl) (by kernel_rfl) (by kernel_rfl) (fun _ _ _ _ h => by cases h.1) (by rfl) ?_; apply Exists.intro; refine ⟨fun v1 hv1 => ?_, ?_⟩; (· (go_simp; rfl)); simp only [Act.put, List.setIfInBounds_toArray, List.set_cons_zero, List.set_cons_succ]
    refine anyU_val Later.pre 3 [4, 12, 14] rfl (by rfl) (by rfl) (by kernel_rfl) (by kernel_rfl) (by kernel_rfl) (by kernel_rfl) (by kernel_rfl) (fun _ _ _ _ h => by cases h.1) (by rfl) ?_; apply Exists.intro; refine ⟨fun v1 hv1 => ?_, ?_⟩; (· (go_simp; rfl)); simp only [Act.put, List.setIfInBounds_toArray, List.set_cons_zero, List.set_cons_succ]
    refine anyU_val Later.pre 4 [12, 14] rfl (by rfl) (by rfl) (by kernel_rfl) (by kernel_rfl) (by kernel_rfl) (by kernel_rfl) (by kernel_rfl) (fun _ _ _ _ h => by cases h.1) (by rfl) ?_; apply Exists.intro; refine ⟨fun v1 hv1 => ?_, ?_⟩; (· (go_simp; rfl)); simp only [Act.put, List.setIfInBounds_toArray, List.set_cons_zero, List.set_cons_succ]
    refine anyU_val Later.pre 5 [6, 12, 14] rfl (by rfl) (by rfl) (by kernel_rfl) (by kernel_rfl) (by kernel_rfl) (by kernel_rfl) (by kernel_rfl) (fun _ _ _ _ h => by cases h.1) (by rfl) ?_; apply Exists.intro; refine ⟨fun v1 hv1 => ?_, ?_⟩; (· (go_simp; rfl)); simp only [Act.put, List.setIfInBounds_toArray, List.set_cons_zero, List.set_cons_succ]
    refine anyU_val Later.pre 6 [12, 14] rfl (by rfl) (by rfl) (by kernel_rfl) (by kernel_rfl) (by kernel_rfl) (by kernel_rfl) (by kernel_rfl) (fun _ _ _ _ h => by cases h.1) (by rfl) ?_; apply Exists.intro; refine ⟨fun v1 hv1 => ?_, ?_⟩; (· (go_simp; rfl)); simp only [Act.put, List.setIfInBounds_toArray, List.set_cons_zero, List.set_cons_succ]
    refine anyU_val Later.pre 7 [8, 12, 14] rfl (by rfl) (by rfl) (by kernel_rfl) (by kernel_rfl) (by kernel_rfl) (by kernel_rfl) (by kernel_rfl) (fun _ _ _ _ h => by cases h.1) (by rfl) ?_; apply Exists.intro; refine ⟨fun v1 hv1 => ?_, ?_⟩; (· (go_simp; rfl)); simp only [Act.put, List.setIfInBounds_toArray, List.set_cons_zero, List.set_cons_succ]
    refine anyU_val Later.pre 8 [12, 14] rfl (by rfl) (by rfl) (by kernel_rfl) (by kernel_rfl) (by kernel_rfl) (by kernel_rfl) (by kernel_rfl) (fun _ _ _ _ h => by cases h.1) (by rfl) ?_; apply Exists.intro; refine ⟨fun v1 hv1 => ?_, ?_⟩; (· (go_simp; rfl)); simp only [Act.put, List.setIfInBounds_toArray, List.set_cons_zero, List.set_cons_succ]
    refine anyU_val Later.pre 9 [10, 11, 12, 14] rfl (by rfl) (by rfl) (by kernel_rfl) (by kernel_rfl) (by kernel_rfl) (by kernel_rfl) (by kernel_rfl) (fun _ _ _ _ h => by cases h.1) (by rfl) ?_; apply Exists.intro; refine ⟨fun v1 hv1 => ?_, ?_⟩; (· (go_simp; rfl)); simp only [Act.put, List.setIfInBounds_toArray, List.set_cons_zero, List.set_cons_succ]
    refine anyU_val Later.pre 10 [11, 12, 14] rfl (by rfl) (by rfl) (by kernel_rfl) (by kernel_rfl) (by kernel_rfl) (by kernel_rfl) (by kernel_rfl) (fun _ _ _ _ h => by cases h.1) (by rfl) ?_; apply Exists.intro; refine ⟨fun v1 hv1 => ?_, ?_⟩; (· (go_simp; rfl)); simp only [Act.put, List.setIfInBounds_toArray, List.set_cons_zero, List.set_cons_succ]
    clear q6 q1
    refine anyU_two 11 13 rfl rfl (by kernel_rfl) (by rfl) (by rfl) ?ca ?al
    case ca =>
      refine wp_enter 8 #[.slice ma ml.length mc] (by go_simp) ?_
      refine (HMD.out Wd LWd).mono ?_
      rintro e W1 ⟨m1, vm, rfl, hmd⟩
      obtain ⟨da, dc, rfl, _, _⟩ := hmd.slice
      refine ⟨Rj_out (by rfl) m1, ?_⟩
      simp only [Act.put, List.setIfInBounds_toArray, List.set_cons_zero, List.set_cons_succ]
      refine anyU_two 12 13 rfl rfl (by kernel_rfl) (by rfl) (by rfl) ?cb ?am
      case cb =>
        refine wp_enter 7 #[.agg #[.string st, .slice va hl.length vc, .slice ba zb.length bcp], .int .u32 h, .int .u32 t, .int .u16 (p : Int), .int .u16 (q : Int), .slice da ml.length dc] (by go_simp) ?_
        refine (HRD.out W1 _ _ (LWd.trans m1) (HR7.out.later (ld.trans m1)) hmd).mono ?_
        rintro e W2 ⟨m2, vh, vb, rfl, hrw, hOw⟩
        obtain ⟨ya, yc, rfl⟩ := owns_form hrw
        obtain ⟨za, zc, rfl, _, _⟩ := hOw.slice
        refine ⟨Rj_out (by rfl) m2, ?_⟩
        simp only [Act.put, List.setIfInBounds_toArray, List.set_cons_zero, List.set_cons_succ]
        refine anyU_one 13 rfl (by kernel_rfl) (by rfl) ?_
        have l3 := later_allocR W2 (.cells #[.string ⟨#[]⟩, .slice none 0 0, .slice none 0 0] 34)
        have HA0 := heap_alloc_new W2 (.cells #[.string ⟨#[]⟩, .slice none 0 0, .slice none 0 0] 34)
        unfold Oper.wp
        go_simp
        refine ⟨Rj_out (by rfl) l3, ?_⟩
        change wpAnyU _ _ _ _ _ _ _ _ _ _ (W2.alloc (.cells #[.string ⟨#[]⟩, .slice none 0 0, .slice none 0 0] 34))
        generalize W2.alloc (.cells #[.string ⟨#[]⟩, .slice none 0 0, .slice none 0 0] 34) = W5 at *
        have hgn : w6.heap.size ≤ W2.heap.size := by have := (ld.trans (m1.trans m2)).size; omega
        generalize W2.heap.size = gn at *
        have HA := HA0
        have LL := ld.trans (m1.trans (m2.trans l3))
        have hrF := ownsS_ct hrw (CTs.of l3)
        have hOF := hOw.later l3
        have kA := block_cell HA
        have fA := block_frozen HA
        refine anyU_one 14 rfl (by kernel_rfl) (by rfl) ?_
        unfold Oper.wp
        go_simp
        refine ⟨Rj_in (by rfl) trivial, ?_⟩
        clear kA fA
        generalize hV : (((W5.setCell ⟨gn, 0, none⟩ _).setCell ⟨gn, 1, none⟩ _).setCell ⟨gn, 2, none⟩ _) = V8
        have hV9 : V8 = putRow W5 gn 0 [.string st, .slice ya rh.length yc, .slice za rz.length zc] := hV.symm
        have hb8 : But (fun b => b = gn) W5 V8 := by rw [hV9]; exact putRow_but (E := fun b => b = gn) (n := gn) rfl _ _ _ _ (But.refl _ _)
        have p8 := putRow_all [.string st, .slice ya rh.length yc, .slice za rz.length zc] HA rfl
        rw [← hV9] at p8
        clear hV hV9
        refine anyU_done (by kernel_rfl) ?_
        refine ⟨rfl, ?_⟩
        have BB := hide (Below.trans LL (hb8.below LL.size (fun k h e => by omega)))
        have OO := hide (ownR_rd (own_but (base' := 0) hrF hb8 HA (by decide) (Nat.zero_le _)))
        have QQ := hide (hOF.butT14 hb8 (fun g cur fz hg e => by rw [e, HA] at hg; cases hg)).rd
        have PP := hide p8
        go_wp2_with fail
        go_meet
        case rel => exact ⟨gn, ya, yc, za, zc, rfl, BB, PP, OO, QQ⟩
      case am =>
        have l3 := later_allocR W1 (.cells #[.string ⟨#[]⟩, .slice none 0 0, .slice none 0 0] 34)
        have HA0 := heap_alloc_new W1 (.cells #[.string ⟨#[]⟩, .slice none 0 0, .slice none 0 0] 34)
        have hmd3 := hide (hmd.later l3)
        unfold Oper.wp
        go_simp
        refine ⟨Rj_out (by rfl) l3, ?_⟩
        change wpAnyU _ _ _ _ _ _ _ _ _ _ (W1.alloc (.cells #[.string ⟨#[]⟩, .slice none 0 0, .slice none 0 0] 34))
        generalize W1.alloc (.cells #[.string ⟨#[]⟩, .slice none 0 0, .slice none 0 0] 34) = W3 at *
        have hgn : w6.heap.size ≤ W1.heap.size := by have := (ld.trans m1).size; omega
        generalize W1.heap.size = gn at *
        refine anyU_one 12 rfl (by kernel_rfl) (by rfl) ?_
        refine wp_enter 7 #[.agg #[.string st, .slice va hl.length vc, .slice ba zb.length bcp], .int .u32 h, .int .u32 t, .int .u16 (p : Int), .int .u16 (q : Int), .slice da ml.length dc] (by go_simp) ?_
        refine (HRD.out W3 _ _ (LWd.trans (m1.trans l3)) (HR7.out.later (ld.trans (m1.trans l3))) hmd3.out).mono ?_
        rintro e W5 ⟨m2, vh, vb, rfl, hrw, hOw⟩
        obtain ⟨ya, yc, rfl⟩ := owns_form hrw
        obtain ⟨za, zc, rfl, _, _⟩ := hOw.slice
        refine ⟨Rj_out (by rfl) m2, ?_⟩
        simp only [Act.put, List.setIfInBounds_toArray, List.set_cons_zero, List.set_cons_succ]
        have HA := later_keep m2 HA0
        have LL := ld.trans (m1.trans (l3.trans m2))
        have hrF := hrw
        have hOF := hOw
        have kA := block_cell HA
        have fA := block_frozen HA
        refine anyU_one 14 rfl (by kernel_rfl) (by rfl) ?_
        unfold Oper.wp
        go_simp
        refine ⟨Rj_in (by rfl) trivial, ?_⟩
        clear kA fA
        generalize hV : (((W5.setCell ⟨gn, 0, none⟩ _).setCell ⟨gn, 1, none⟩ _).setCell ⟨gn, 2, none⟩ _) = V8
        have hV9 : V8 = putRow W5 gn 0 [.string st, .slice ya rh.length yc, .slice za rz.length zc] := hV.symm
        have hb8 : But (fun b => b = gn) W5 V8 := by rw [hV9]; exact putRow_but (E := fun b => b = gn) (n := gn) rfl _ _ _ _ (But.refl _ _)
        have p8 := putRow_all [.string st, .slice ya rh.length yc, .slice za rz.length zc] HA rfl
        rw [← hV9] at p8
        clear hV hV9
        refine anyU_done (by kernel_rfl) ?_
        refine ⟨rfl, ?_⟩
        have BB := hide (Below.trans LL (hb8.below LL.size (fun k h e => by omega)))
        have OO := hide (ownR_rd (own_but (base' := 0) hrF hb8 HA (by decide) (Nat.zero_le _)))
        have QQ := hide (hOF.butT14 hb8 (fun g cur fz hg e => by rw [e, HA] at hg; cases hg)).rd
        have PP := hide p8
        go_wp2_with fail
        go_meet
        case rel => exact ⟨gn, ya, yc, za, zc, rfl, BB, PP, OO, QQ⟩
    case al =>
      have l3 := later_allocR Wd (.cells #[.string ⟨#[]⟩, .slice none 0 0, .slice none 0 0] 34)
      have HA0 := heap_alloc_new Wd (.cells #[.string ⟨#[]⟩, .slice none 0 0, .slice none 0 0] 34)
      unfold Oper.wp
      go_simp
      refine ⟨Rj_out (by rfl) l3, ?_⟩
      change wpAnyU _ _ _ _ _ _ _ _ _ _ (Wd.alloc (.cells #[.string ⟨#[]⟩, .slice none 0 0, .slice none 0 0] 34))
      generalize Wd.alloc (.cells #[.string ⟨#[]⟩, .slice none 0 0, .slice none 0 0] 34) = W1 at *
      have hgn : w6.heap.size ≤ Wd.heap.size := by have := ld.size; omega
      generalize Wd.heap.size = gn at *
      refine anyU_one 11 rfl (by kernel_rfl) (by rfl) ?_
      refine wp_enter 8 #[.slice ma ml.length mc] (by go_simp) ?_
      refine (HMD.out W1 (LWd.trans l3)).mono ?_
      rintro e W3 ⟨m1, vm, rfl, hmd⟩
      obtain ⟨da, dc, rfl, _, _⟩ := hmd.slice
      refine ⟨Rj_out (by rfl) m1, ?_⟩
      simp only [Act.put, List.setIfInBounds_toArray, List.set_cons_zero, List.set_cons_succ]
      refine anyU_one 12 rfl (by kernel_rfl) (by rfl) ?_
      refine wp_enter 7 #[.agg #[.string st, .slice va hl.length vc, .slice ba zb.length bcp], .int .u32 h, .int .u32 t, .int .u16 (p : Int), .int .u16 (q : Int), .slice da ml.length dc] (by go_simp) ?_
      refine (HRD.out W3 _ _ (LWd.trans (l3.trans m1)) (HR7.out.later (ld.trans (l3.trans m1))) hmd).mono ?_
      rintro e W5 ⟨m2, vh, vb, rfl, hrw, hOw⟩
      obtain ⟨ya, yc, rfl⟩ := owns_form hrw
      obtain ⟨za, zc, rfl, _, _⟩ := hOw.slice
      refine ⟨Rj_out (by rfl) m2, ?_⟩
      simp only [Act.put, List.setIfInBounds_toArray, List.set_cons_zero, List.set_cons_succ]
      have HA := later_keep m2 (later_keep m1 HA0)
      have LL := ld.trans (l3.trans (m1.trans m2))
      have hrF := hrw
      have hOF := hOw
      have kA := block_cell HA
      have fA := block_frozen HA
      refine anyU_one 14 rfl (by kernel_rfl) (by rfl) ?_
      unfold Oper.wp
      go_simp
      refine ⟨Rj_in (by rfl) trivial, ?_⟩
      clear kA fA
      generalize hV : (((W5.setCell ⟨gn, 0, none⟩ _).setCell ⟨gn, 1, none⟩ _).setCell ⟨gn, 2, none⟩ _) = V8
      have hV9 : V8 = putRow W5 gn 0 [.string st, .slice ya rh.length yc, .slice za rz.length zc] := hV.symm
      have hb8 : But (fun b => b = gn) W5 V8 := by rw [hV9]; exact putRow_but (E := fun b => b = gn) (n := gn) rfl _ _ _ _ (But.refl _ _)
      have p8 := putRow_all [.string st, .slice ya rh.length yc, .slice za rz.length zc] HA rfl
      rw [← hV9] at p8
      clear hV hV9
      refine anyU_done (by kernel_rfl) ?_
      refine ⟨rfl, ?_⟩
      have BB := hide (Below.trans LL (hb8.below LL.size (fun k h e => by omega)))
      have OO := hide (ownR_rd (own_but (base' := 0) hrF hb8 HA (by decide) (Nat.zero_le _)))
      have QQ := hide (hOF.butT14 hb8 (fun g cur fz hg e => by rw [e, HA] at hg; cases hg)).rd
      have PP := hide p8
      go_wp2_with fail
      go_meet
      case rel => exact ⟨gn, ya, yc, za, zc, rfl, BB, PP, OO, QQ⟩
  case rest =>
    obtain ⟨gn, ya, yc, za, zc, rfl, HL9, HP9, HM9, HZ9⟩ := hcut
    have L9 : Later w wc := L6.trans HL9.out
    have l9 := HL9.out
    have R5 := hide (later_keep l9 E5.out)
    have R6 := hide (later_keep l9 E6.out)
    have R7 := hide (later_keep l9 D7.out)
    have HI9 := hide (HI6.out.later l9)
    have HR9 := hide (HR7.out.later l9)
    have HN9 := hide (HN7.out.later l9)
    have HB9 := hide (HB7.out.later l9)
    clear l9 HL9 E5 E6 D7 E1 HI6 HR7 HN7 HB7 HMD HRD L6
    go_wp2_with fail
    refine (HL.out wc L9).mono ?_
    rintro e w8 ⟨rfl, l8⟩
    have k7 := block_cell (later_keep l8 R7.out)
    have k9 := block_cell (later_keep l8 HP9.out)
    go_wp2_with fail
    refine (HS1.out w8 _ _ _ _ (HN9.out.later l8) (HM9.out.later l8) (HB9.out.later l8) (HZ9.out.later l8)).mono ?_
    rintro e w10 ⟨rfl, l10⟩
    have m10 := Later.trans l8 l10
    clear k7 k9
    have k5 := block_cell (later_keep m10 R5.out)
    have k6 := block_cell (later_keep m10 R6.out)
    have L10 := L9.trans m10
    go_wp2_with fail
    refine (HS2.out w10 _ _ _ _ (HI9.out.later m10) (HR9.out.later m10) (HBB.out w10 L10) (HBB.out w10 L10)).mono ?_
    rintro e w11 ⟨rfl, l11⟩
    clear k5 k6
    go_wp2_with fail
    go_ret
    exact ⟨rfl, L10.trans l11⟩
end Go.Proofs.YtibjgaelaijgpaaGreatDoor
