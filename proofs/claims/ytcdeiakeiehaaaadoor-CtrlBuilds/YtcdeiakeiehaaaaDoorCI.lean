/- Package ctrl: what a packet's frame is. -/
import Derived.Laws.Cover3
import Derived.Test.YtcdeiakeiehaaaaDoorCH
namespace Go.Proofs.YtcdeiakeiehaaaaDoor
open Go.RowKit Go.Shelf
set_option maxRecDepth 100000
set_option linter.unusedVariables false
set_option linter.unusedSimpArgs false

/-- What the beginning says, by its number. -/
def ghs (n : Nat) : Bool := n == 1 || n == 3
def gha (n : Nat) : Bool := n == 2 || n == 3
def ghd (n : Nat) : Nat := if n = 0 then 8 else if n = 3 then 16 else 12
def gsq (n : Nat) (zs : List Int) : Int := if n = 1 ∨ n = 3 then getAt4 zs 8 else 0
def gak (n : Nat) (zs : List Int) : Int := if n = 2 then getAt4 zs 8 else if n = 3 then getAt4 zs 12 else 0
def bgz (zs : List Int) : Nat := bgo (zs[0]?.getD 0) (zs[1]?.getD 0) (zs[2]?.getD 0) (zs[3]?.getD 0)
theorem ghd_bd (n : Nat) : 8 ≤ ghd n ∧ ghd n ≤ 16 := by unfold ghd; split <;> (try split) <;> omega
/-- What a packet's frame is refused with (0: nothing). -/
def pge (proto : Int) (zs : List Int) : Int := if proto ≠ 47 then 12 else if zs.length < 8 then 3 else if bgz zs = 4 then 4 else if (zs.length : Int) < ghd (bgz zs) + wat zs 4 then 3 else if (ghd (bgz zs) : Int) + wat zs 4 < zs.length then 4 else 0

theorem frameHead_any (n : Nat) (hn : n ≤ 3) (sv : Value) (zs : List Int) (hB : Mt.By zs) (w : World) (hI : Rd w.heap.size w sv zs) :
    Calls Tryd.prog 33 #[sv, .int .i64 n] w fun e w' => e = .returned (.tuple #[.agg #[.int .u16 (getAt2 zs 6), .bool (ghs n), .bool (gha n), .int .u32 (gsq n zs), .int .u32 (gak n zs), .slice none 0 0], .int .i64 (ghd n)]) ∧ Below w.heap.size w w' := by
  have h : n = 0 ∨ n = 1 ∨ n = 2 ∨ n = 3 := by omega
  rcases h with rfl | rfl | rfl | rfl
  · exact frameHead_0 sv zs hB w hI
  · exact frameHead_1 sv zs hB w hI
  · exact frameHead_2 sv zs hB w hI
  · exact frameHead_3 sv zs hB w hI

set_option maxHeartbeats 4000000 in
theorem parseGre_any (tos id ttl proto src dst : Int) (keep : Bool) (so sd : Value) (zs : List Int) (w : World) (hT : Tb w) (hB : Mt.By zs) (hI : Rd w.heap.size w sd zs) (hl : zs.length ≤ 140737488355328) :
    Calls Tryd.prog 15 #[.agg #[.int .u8 tos, .int .u16 id, .bool keep, .int .u8 ttl, .int .u8 proto, .int .u32 src, .int .u32 dst, so, sd]] w fun e w' => Below w.heap.size w w' ∧ ((pge proto zs ≠ 0 ∧ e = .returned (.tuple #[.agg zf.toArray, .int .i64 (pge proto zs)])) ∨
      (pge proto zs = 0 ∧ ∃ ad cd, e = .returned (.tuple #[.agg #[.int .u16 (getAt2 zs 6), .bool (ghs (bgz zs)), .bool (gha (bgz zs)), .int .u32 (gsq (bgz zs) zs), .int .u32 (gak (bgz zs) zs), .slice ad (zs.length - ghd (bgz zs)) cd], .int .i64 0]) ∧ Ow w.heap.size w' (.slice ad (zs.length - ghd (bgz zs)) cd) (zs.drop (ghd (bgz zs))))) := by
  obtain ⟨ad, cd, rfl, hl1, hm1⟩ := hI.slice
  have hb0 : Below w.heap.size w ((w.alloc (.cells #[.int .u8 tos, .int .u16 id, .bool keep, .int .u8 ttl, .int .u8 proto, .int .u32 src, .int .u32 dst, so, .slice ad zs.length cd] 26)).alloc (.cells zf.toArray 30)) := ((Below.refl _ _).alloc (Nat.le_refl _) _).alloc (by simp) _
  have r0 : ((w.alloc (.cells #[.int .u8 tos, .int .u16 id, .bool keep, .int .u8 ttl, .int .u8 proto, .int .u32 src, .int .u32 dst, so, .slice ad zs.length cd] 26)).alloc (.cells zf.toArray 30)).heap[w.heap.size + 1]? = some (.cells zf.toArray 30 (0, 0)) := by have := heap_alloc_new (w.alloc (.cells #[.int .u8 tos, .int .u16 id, .bool keep, .int .u8 ttl, .int .u8 proto, .int .u32 src, .int .u32 dst, so, .slice ad zs.length cd] 26)) (.cells zf.toArray 30); simpa using this
  have hs0 : ((w.alloc (.cells #[.int .u8 tos, .int .u16 id, .bool keep, .int .u8 ttl, .int .u8 proto, .int .u32 src, .int .u32 dst, so, .slice ad zs.length cd] 26)).alloc (.cells zf.toArray 30)).heap.size = w.heap.size + 1 + 1 := by simp
  have R0 := hide r0
  have HS := hide hs0
  clear r0 hs0
  by_cases c1 : proto = 47
  · have t1 : (proto != 47) = false := by simp [c1]
    have C1 := hide c1
    clear c1
    by_cases c2 : zs.length < 8
    · have t2 : (zs.length : Int) < 8 := by omega
      have HF : Hid (pge proto zs = 3) := by show _ = _; unfold pge; rw [if_neg (by simp [C1.out]), if_pos c2]
      go_enter Tryd.func15, Tryd.ntmps15
      go_wp2_with fail
      exact bodyPost_ret (v := .tuple #[.agg zf.toArray, .int .i64 3]) (by simp [results, Tryd.results15, go_sem]) rfl ⟨hb0, .inl ⟨by rw [HF.out]; decide, by rw [HF.out]⟩⟩
    · have t2 : ¬ (zs.length : Int) < 8 := by omega
      have hT0 : Tb ((w.alloc (.cells #[.int .u8 tos, .int .u16 id, .bool keep, .int .u8 ttl, .int .u8 proto, .int .u32 src, .int .u32 dst, so, .slice ad zs.length cd] 26)).alloc (.cells zf.toArray 30)) := hT.below hb0 hT.pos
      go_enter Tryd.func15, Tryd.ntmps15
      go_upto_region 6 with fail
      generalize (w.alloc (.cells #[.int .u8 tos, .int .u16 id, .bool keep, .int .u8 ttl, .int .u8 proto, .int .u32 src, .int .u32 dst, so, .slice ad zs.length cd] 26)).alloc (.cells zf.toArray 30) = W0 at *
      obtain ⟨b, off, cap, e0, hlc, hmc, hbb, hcs⟩ := hI.cells (by omega)
      have hcl := e0
      simp at hcl
      obtain ⟨rfl, rfl⟩ := hcl
      clear e0
      have d0 := ((hb0.cell (p := ⟨b, off + 0, none⟩) hbb).trans (hcs 0 (by omega)))
      have d1 := ((hb0.cell (p := ⟨b, off + 1, none⟩) hbb).trans (hcs 1 (by omega)))
      have d2 := ((hb0.cell (p := ⟨b, off + 2, none⟩) hbb).trans (hcs 2 (by omega)))
      have d3 := ((hb0.cell (p := ⟨b, off + 3, none⟩) hbb).trans (hcs 3 (by omega)))
      rw [Nat.add_zero] at d0
      have HZ0 : Hid (bgz zs = bgo (zs[0]?.getD 0) (zs[1]?.getD 0) (zs[2]?.getD 0) (zs[3]?.getD 0)) := rfl
      clear hcs
      generalize zs[0]?.getD 0 = z0 at *
      generalize zs[1]?.getD 0 = z1 at *
      generalize zs[2]?.getD 0 = z2 at *
      generalize zs[3]?.getD 0 = z3 at *
      have har := run_arrayAt (P := Tryd.prog) (w := W0) 52 5 4 (some ⟨b, off, none⟩) zs.length cd Tryd.underlying52 (by omega)
      go_wp2_with fail
      refine (bitsOf_any z0 z1 z2 z3 W0 hT0).mono ?_
      rw [← HZ0.out]
      obtain ⟨n, HN⟩ : ∃ n, Hid (bgz zs = n) := ⟨_, rfl⟩
      have hn4 : n ≤ 4 := by rw [← HN.out, HZ0.out]; exact bgo_le _ _ _ _
      rw [HN.out]
      rintro e w1 ⟨rfl, hb1⟩
      have hw1 : Below w.heap.size w w1 := hb0.trans (hb1.mono hb0.size)
      have r1 := (hb1.block (w.heap.size + 1) (by have := HS.out; omega)).trans R0.out
      have hs1 : w.heap.size + 1 + 1 ≤ w1.heap.size := by have := hb1.size; have := HS.out; omega
      clear d0 d1 d2 d3 har
      by_cases c3 : n = 4
      · subst c3
        have HF : Hid (pge proto zs = 4) := by show _ = _; unfold pge; rw [if_neg (by simp [C1.out]), if_neg c2, if_pos HN.out]
        rw [show bgk 4 = false from rfl, show bgv 4 = 0 from rfl]
        have RR := block_cell r1
        have SS := block_frozen r1
        go_wp2_with fail
        generalize hV : (((((w1.setCell ⟨w.heap.size + 1, 0, none⟩ _).setCell ⟨w.heap.size + 1, 1, none⟩ _).setCell ⟨w.heap.size + 1, 2, none⟩ _).setCell ⟨w.heap.size + 1, 3, none⟩ _).setCell ⟨w.heap.size + 1, 4, none⟩ _).setCell ⟨w.heap.size + 1, 5, none⟩ _ = V8
        have hV9 : V8 = putRow w1 (w.heap.size + 1) 0 zf := hV.symm
        have hb8 : But (fun b => b = w.heap.size + 1) w1 V8 := by rw [hV9]; exact putRow_but (E := fun b => b = w.heap.size + 1) (n := w.heap.size + 1) rfl _ _ _ _ (But.refl _ _)
        have p8 := putRow_all zf r1 rfl
        rw [← hV9] at p8
        clear hV hV9
        have P8 := block_cell p8
        have hw8 : Below w.heap.size w V8 := (hw1).trans (hb8.below (hw1).size (fun k h e => by omega))
        exact bodyPost_ret (v := .tuple #[.agg zf.toArray, .int .i64 4]) (by simp [results, Tryd.results15, go_sem, P8]) rfl (⟨hw8, .inl ⟨by rw [HF.out]; decide, by rw [HF.out]⟩⟩)
      · rw [show bgk n = true from by simp [bgk, c3], show bgv n = (n : Int) from by simp [bgv, c3]]
        have hn3 : n ≤ 3 := by omega
        clear c3
        go_wp2_with fail
        refine (frameHead_any n hn3 _ zs hB w1 ((hI.below hw1).mono hw1.size)).mono ?_
        rintro e w2 ⟨rfl, hb2⟩
        have hw2 : Below w.heap.size w w2 := hw1.trans (hb2.mono hw1.size)
        have r2 := (hb2.block (w.heap.size + 1) (by omega)).trans r1
        have hs2 : w.heap.size + 1 + 1 ≤ w2.heap.size := Nat.le_trans hs1 hb2.size
        have f3 := heap_alloc_new w2 (.cells #[.int .u16 (getAt2 zs 6), .bool (ghs n), .bool (gha n), .int .u32 (gsq n zs), .int .u32 (gak n zs), .slice none 0 0] 30)
        have hA := (Below.refl w2.heap.size w2).alloc (Nat.le_refl _) (.cells #[.int .u16 (getAt2 zs 6), .bool (ghs n), .bool (gha n), .int .u32 (gsq n zs), .int .u32 (gak n zs), .slice none 0 0] 30)
        go_wp2_with fail
        generalize w2.alloc (.cells #[.int .u16 (getAt2 zs 6), .bool (ghs n), .bool (gha n), .int .u32 (gsq n zs), .int .u32 (gak n zs), .slice none 0 0] 30) = w3 at *
        have hw3 : Below w.heap.size w w3 := hw2.trans (hA.mono hw2.size)
        have r3 := (hA.block (w.heap.size + 1) (by omega)).trans r2
        refine (get16_rd _ zs hB 4 (by omega) w3 (hI.below hw3)).mono ?_
        rintro e w4 ⟨rfl, q4, hq4⟩
        have hw4 : Below w.heap.size w w4 := by rw [hq4]; exact below_draw hw3 q4
        have r4 : w4.heap[w.heap.size + 1]? = some (.cells zf.toArray 30 (0, 0)) := by rw [hq4]; exact r3
        have f4 : w4.heap[w2.heap.size]? = some (.cells #[.int .u16 (getAt2 zs 6), .bool (ghs n), .bool (gha n), .int .u32 (gsq n zs), .int .u32 (gak n zs), .slice none 0 0] 30 (0, 0)) := by rw [hq4]; exact f3
        clear hq4
        have hgd := ghd_bd n
        have hwd := wat_bd hB 4
        obtain ⟨hd, hhd⟩ : ∃ hd, ghd n = hd := ⟨_, rfl⟩
        have HHD := hide hhd
        rw [hhd] at hgd ⊢
        clear hhd
        have HW4 : Hid (wat zs 4 = wat zs 4) := rfl
        obtain ⟨wl, HWL⟩ : ∃ wl, Hid (wat zs 4 = wl) := ⟨_, rfl⟩
        rw [HWL.out] at hwd ⊢
        by_cases c4 : (zs.length : Int) < hd + wl
        · have HF : Hid (pge proto zs = 3) := by show _ = _; unfold pge; rw [if_neg (by simp [C1.out]), if_neg c2, HN.out, if_neg (by omega), HHD.out, HWL.out, if_pos c4]
          have RR := block_cell r4
          have SS := block_frozen r4
          go_wp2_with fail
          generalize hV : (((((w4.setCell ⟨w.heap.size + 1, 0, none⟩ _).setCell ⟨w.heap.size + 1, 1, none⟩ _).setCell ⟨w.heap.size + 1, 2, none⟩ _).setCell ⟨w.heap.size + 1, 3, none⟩ _).setCell ⟨w.heap.size + 1, 4, none⟩ _).setCell ⟨w.heap.size + 1, 5, none⟩ _ = V8
          have hV9 : V8 = putRow w4 (w.heap.size + 1) 0 zf := hV.symm
          have hb8 : But (fun b => b = w.heap.size + 1) w4 V8 := by rw [hV9]; exact putRow_but (E := fun b => b = w.heap.size + 1) (n := w.heap.size + 1) rfl _ _ _ _ (But.refl _ _)
          have p8 := putRow_all zf r4 rfl
          rw [← hV9] at p8
          clear hV hV9
          have P8 := block_cell p8
          have hw8 : Below w.heap.size w V8 := (hw4).trans (hb8.below (hw4).size (fun k h e => by omega))
          exact bodyPost_ret (v := .tuple #[.agg zf.toArray, .int .i64 3]) (by simp [results, Tryd.results15, go_sem, P8]) rfl (⟨hw8, .inl ⟨by rw [HF.out]; decide, by rw [HF.out]⟩⟩)
        · by_cases c5 : (hd : Int) + wl < zs.length
          · have HF : Hid (pge proto zs = 4) := by show _ = _; unfold pge; rw [if_neg (by simp [C1.out]), if_neg c2, HN.out, if_neg (by omega), HHD.out, HWL.out, if_neg c4, if_pos c5]
            have RR := block_cell r4
            have SS := block_frozen r4
            go_wp2_with fail
            generalize hV : (((((w4.setCell ⟨w.heap.size + 1, 0, none⟩ _).setCell ⟨w.heap.size + 1, 1, none⟩ _).setCell ⟨w.heap.size + 1, 2, none⟩ _).setCell ⟨w.heap.size + 1, 3, none⟩ _).setCell ⟨w.heap.size + 1, 4, none⟩ _).setCell ⟨w.heap.size + 1, 5, none⟩ _ = V8
            have hV9 : V8 = putRow w4 (w.heap.size + 1) 0 zf := hV.symm
            have hb8 : But (fun b => b = w.heap.size + 1) w4 V8 := by rw [hV9]; exact putRow_but (E := fun b => b = w.heap.size + 1) (n := w.heap.size + 1) rfl _ _ _ _ (But.refl _ _)
            have p8 := putRow_all zf r4 rfl
            rw [← hV9] at p8
            clear hV hV9
            have P8 := block_cell p8
            have hw8 : Below w.heap.size w V8 := (hw4).trans (hb8.below (hw4).size (fun k h e => by omega))
            exact bodyPost_ret (v := .tuple #[.agg zf.toArray, .int .i64 4]) (by simp [results, Tryd.results15, go_sem, P8]) rfl (⟨hw8, .inl ⟨by rw [HF.out]; decide, by rw [HF.out]⟩⟩)
          · have HF : Hid (pge proto zs = 0) := by show _ = _; unfold pge; rw [if_neg (by simp [C1.out]), if_neg c2, HN.out, if_neg (by omega), HHD.out, HWL.out, if_neg c4, if_neg c5]
            have i1 : (hd : Int) ≤ zs.length := by omega
            have i1n : hd ≤ zs.length := by omega
            have i2 : (zs.length : Int) ≤ cd := by omega
            have i0 : (0 : Int) ≤ hd := by omega
            by_cases hcd : cd = hd
            · subst hcd
              have hcut := (hI.below hw4).cutAt cd i1n
              have hz : zs.length - cd = 0 := by omega
              have HZZ := hide hz
              rw [if_pos rfl, Nat.sub_self, hz] at hcut
              clear hz
              go_wp2_with fail
              refine (cloneb_any _ (zs.drop cd) w4 (by simp; omega) (hcut.mono hw4.size)).mono ?_
              rw [List.length_drop, HZZ.out]
              rintro e w5 ⟨a5, c5, rfl, hO5, hb5⟩
              have hw5 : Below w.heap.size w w5 := hw4.trans (hb5.mono hw4.size)
              have hlt4 := (Array.getElem?_eq_some_iff.1 f4).1
              have r5 := (hb5.block (w.heap.size + 1) (by omega)).trans r4
              have f5 := (hb5.block w2.heap.size hlt4).trans f4
              have K5 := block_cell f5
              have L5 := block_frozen f5
              have f6 := heap_set1 f5 5 (.slice a5 0 c5)
              have hw6 := hw5.setCell (p := ⟨w2.heap.size, 5, none⟩) (show w.heap.size ≤ w2.heap.size by omega) (.slice a5 0 c5)
              have r6 := (Below.heap_setCell w5 ⟨w2.heap.size, 5, none⟩ (.slice a5 0 c5) (w.heap.size + 1) (by simp; omega)).trans r5
              have hE6 : But (fun b => b = w2.heap.size) w5 (w5.setCell ⟨w2.heap.size, 5, none⟩ (.slice a5 0 c5)) := (But.refl (fun b => b = w2.heap.size) w5).setCell (p := ⟨w2.heap.size, 5, none⟩) rfl _
              have hO6 := hO5.but hE6 (fun b h e => by omega)
              have R6 := block_cell r6
              have S6 := block_frozen r6
              have hne : ¬ w2.heap.size = w.heap.size + 1 := by omega
              have hne2 : ¬ w.heap.size + 1 = w2.heap.size := by omega
              go_wp2_with fail
              generalize w5.setCell ⟨w2.heap.size, 5, none⟩ (.slice a5 0 c5) = w6 at *
              clear K5 L5
              have r6' : w6.heap[w.heap.size + 1]? = some (.cells zf.toArray 30 (0, 0)) := r6
              generalize hV : (((((w6.setCell ⟨w.heap.size + 1, 0, none⟩ _).setCell ⟨w.heap.size + 1, 1, none⟩ _).setCell ⟨w.heap.size + 1, 2, none⟩ _).setCell ⟨w.heap.size + 1, 3, none⟩ _).setCell ⟨w.heap.size + 1, 4, none⟩ _).setCell ⟨w.heap.size + 1, 5, none⟩ _ = V8
              have hV9 : V8 = putRow w6 (w.heap.size + 1) 0 [.int .u16 (getAt2 zs 6), .bool (ghs n), .bool (gha n), .int .u32 (gsq n zs), .int .u32 (gak n zs), .slice a5 0 c5] := hV.symm
              have hb8 : But (fun b => b = w.heap.size + 1) w6 V8 := by rw [hV9]; exact putRow_but (E := fun b => b = w.heap.size + 1) (n := w.heap.size + 1) rfl _ _ _ _ (But.refl _ _)
              have p8 := putRow_all [.int .u16 (getAt2 zs 6), .bool (ghs n), .bool (gha n), .int .u32 (gsq n zs), .int .u32 (gak n zs), .slice a5 0 c5] r6 rfl
              rw [← hV9] at p8
              clear hV hV9
              have P8 := block_cell p8
              have hw8 : Below w.heap.size w V8 := (hw6).trans (hb8.below (hw6).size (fun k h e => by omega))
              exact bodyPost_ret (v := .tuple #[.agg #[.int .u16 (getAt2 zs 6), .bool (ghs n), .bool (gha n), .int .u32 (gsq n zs), .int .u32 (gak n zs), .slice a5 0 c5], .int .i64 0]) (by simp [results, Tryd.results15, go_sem, P8]) rfl (⟨hw8, .inr ⟨HF.out, a5, c5, by rw [HN.out, HHD.out, HZZ.out], by rw [HN.out, HHD.out, HZZ.out]; exact (hO6.but hb8 (fun b h e => by omega)).mono (by omega)⟩⟩)
            · have hcut := (hI.below hw4).cutAt hd i1n
              rw [if_neg hcd] at hcut
              go_wp2_with fail
              refine (cloneb_any _ (zs.drop hd) w4 (by simp; omega) (hcut.mono hw4.size)).mono ?_
              rw [List.length_drop]
              rintro e w5 ⟨a5, c5, rfl, hO5, hb5⟩
              have hw5 : Below w.heap.size w w5 := hw4.trans (hb5.mono hw4.size)
              have hlt4 := (Array.getElem?_eq_some_iff.1 f4).1
              have r5 := (hb5.block (w.heap.size + 1) (by omega)).trans r4
              have f5 := (hb5.block w2.heap.size hlt4).trans f4
              have K5 := block_cell f5
              have L5 := block_frozen f5
              have f6 := heap_set1 f5 5 (.slice a5 (zs.length - hd) c5)
              have hw6 := hw5.setCell (p := ⟨w2.heap.size, 5, none⟩) (show w.heap.size ≤ w2.heap.size by omega) (.slice a5 (zs.length - hd) c5)
              have r6 := (Below.heap_setCell w5 ⟨w2.heap.size, 5, none⟩ (.slice a5 (zs.length - hd) c5) (w.heap.size + 1) (by simp; omega)).trans r5
              have hE6 : But (fun b => b = w2.heap.size) w5 (w5.setCell ⟨w2.heap.size, 5, none⟩ (.slice a5 (zs.length - hd) c5)) := (But.refl (fun b => b = w2.heap.size) w5).setCell (p := ⟨w2.heap.size, 5, none⟩) rfl _
              have hO6 := hO5.but hE6 (fun b h e => by omega)
              have R6 := block_cell r6
              have S6 := block_frozen r6
              have hne : ¬ w2.heap.size = w.heap.size + 1 := by omega
              have hne2 : ¬ w.heap.size + 1 = w2.heap.size := by omega
              go_wp2_with fail
              generalize w5.setCell ⟨w2.heap.size, 5, none⟩ (.slice a5 (zs.length - hd) c5) = w6 at *
              clear K5 L5
              have r6' : w6.heap[w.heap.size + 1]? = some (.cells zf.toArray 30 (0, 0)) := r6
              generalize hV : (((((w6.setCell ⟨w.heap.size + 1, 0, none⟩ _).setCell ⟨w.heap.size + 1, 1, none⟩ _).setCell ⟨w.heap.size + 1, 2, none⟩ _).setCell ⟨w.heap.size + 1, 3, none⟩ _).setCell ⟨w.heap.size + 1, 4, none⟩ _).setCell ⟨w.heap.size + 1, 5, none⟩ _ = V8
              have hV9 : V8 = putRow w6 (w.heap.size + 1) 0 [.int .u16 (getAt2 zs 6), .bool (ghs n), .bool (gha n), .int .u32 (gsq n zs), .int .u32 (gak n zs), .slice a5 (zs.length - hd) c5] := hV.symm
              have hb8 : But (fun b => b = w.heap.size + 1) w6 V8 := by rw [hV9]; exact putRow_but (E := fun b => b = w.heap.size + 1) (n := w.heap.size + 1) rfl _ _ _ _ (But.refl _ _)
              have p8 := putRow_all [.int .u16 (getAt2 zs 6), .bool (ghs n), .bool (gha n), .int .u32 (gsq n zs), .int .u32 (gak n zs), .slice a5 (zs.length - hd) c5] r6 rfl
              rw [← hV9] at p8
              clear hV hV9
              have P8 := block_cell p8
              have hw8 : Below w.heap.size w V8 := (hw6).trans (hb8.below (hw6).size (fun k h e => by omega))
              exact bodyPost_ret (v := .tuple #[.agg #[.int .u16 (getAt2 zs 6), .bool (ghs n), .bool (gha n), .int .u32 (gsq n zs), .int .u32 (gak n zs), .slice a5 (zs.length - hd) c5], .int .i64 0]) (by simp [results, Tryd.results15, go_sem, P8]) rfl (⟨hw8, .inr ⟨HF.out, a5, c5, by rw [HN.out, HHD.out], by rw [HN.out, HHD.out]; exact (hO6.but hb8 (fun b h e => by omega)).mono (by omega)⟩⟩)
  · have t1 : (proto != 47) = true := by simp [c1]
    have HF : Hid (pge proto zs = 12) := by show _ = _; unfold pge; rw [if_pos c1]
    clear c1
    go_enter Tryd.func15, Tryd.ntmps15
    go_wp2_with fail
    exact bodyPost_ret (v := .tuple #[.agg zf.toArray, .int .i64 12]) (by simp [results, Tryd.results15, go_sem]) rfl ⟨hb0, .inl ⟨by rw [HF.out]; decide, by rw [HF.out]⟩⟩
end Go.Proofs.YtcdeiakeiehaaaaDoor
