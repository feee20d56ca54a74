/- Several texts in one. -/
import Derived.Laws.Cover3
import Derived.Test.YtohflohdbkamnaaGreatDoorX5
import Derived.Test.YtohflohdbkamnaaGreatDoorX6
import Derived.Test.YtohflohdbkamnaaGreatDoorX7
import Derived.Test.YtohflohdbkamnaaGreatDoorX10
import Derived.Deep.OwnRows
/- Package ctrl: what a packet's frame is. -/
namespace Go.Proofs.YtohflohdbkamnaaGreatDoor
open Go.RowKit Go.Shelf
set_option maxRecDepth 100000
set_option linter.unusedVariables false
set_option linter.unusedSimpArgs false

/-- What the beginning says, by its number. -/
def ghs (n : Nat) : Bool := n == 1 || n == 3
def gha (n : Nat) : Bool := n == 2 || n == 3
def ghd (n : Nat) : Nat := if n = 0 then 8 else if n = 3 then 16 else 12
def gsq (n : Nat) (zs : List Int) : Int := if n = 1 ∨ n = 3 then getAt4 zs 8 else 0
def gak (n : Nat) (zs : List Int) : Int := if n = 2 then getAt4 zs 8 else if n = 3 then getAt4 zs 12 else 0
def bgz (zs : List Int) : Nat := bgo (zs[0]?.getD 0) (zs[1]?.getD 0) (zs[2]?.getD 0) (zs[3]?.getD 0)
theorem ghd_bd (n : Nat) : 8 ≤ ghd n ∧ ghd n ≤ 16 := by unfold ghd; split <;> (try split) <;> omega
/-- What a packet's frame is refused with (0: nothing). -/
def pge (proto : Int) (zs : List Int) : Int := if proto ≠ 47 then 12 else if zs.length < 8 then 3 else if bgz zs = 4 then 4 else if (zs.length : Int) < ghd (bgz zs) + wat zs 4 then 3 else if (ghd (bgz zs) : Int) + wat zs 4 < zs.length then 4 else 0

theorem frameHead_any (n : Nat) (hn : n ≤ 3) (sv : Value) (zs : List Int) (hB : Mt.By zs) (w : World) (hI : Rd w.heap.size w sv zs) :
    Calls Tryz.prog 259 #[sv, .int .i64 n] w fun e w' => e = .returned (.tuple #[.agg #[.int .u16 (getAt2 zs 6), .bool (ghs n), .bool (gha n), .int .u32 (gsq n zs), .int .u32 (gak n zs), .slice none 0 0], .int .i64 (ghd n)]) ∧ Below w.heap.size w w' := by
  have h : n = 0 ∨ n = 1 ∨ n = 2 ∨ n = 3 := by omega
  rcases h with rfl | rfl | rfl | rfl
  · exact frameHead_0 sv zs hB w hI
  · exact frameHead_1 sv zs hB w hI
  · exact frameHead_2 sv zs hB w hI
  · exact frameHead_3 sv zs hB w hI

set_option maxHeartbeats 4000000 in
theorem parseGre_any (tos id ttl proto src dst : Int) (keep : Bool) (so sd : Value) (zs : List Int) (w : World) (hT : Tb w) (hB : Mt.By zs) (hI : Rd w.heap.size w sd zs) (hl : zs.length ≤ 140737488355328) :
    Calls Tryz.prog 221 #[.agg #[.int .u8 tos, .int .u16 id, .bool keep, .int .u8 ttl, .int .u8 proto, .int .u32 src, .int .u32 dst, so, sd]] w fun e w' => Below w.heap.size w w' ∧ ((pge proto zs ≠ 0 ∧ e = .returned (.tuple #[.agg zf.toArray, .int .i64 (pge proto zs)])) ∨
      (pge proto zs = 0 ∧ ∃ ad cd, e = .returned (.tuple #[.agg #[.int .u16 (getAt2 zs 6), .bool (ghs (bgz zs)), .bool (gha (bgz zs)), .int .u32 (gsq (bgz zs) zs), .int .u32 (gak (bgz zs) zs), .slice ad (zs.length - ghd (bgz zs)) cd], .int .i64 0]) ∧ Ow w.heap.size w' (.slice ad (zs.length - ghd (bgz zs)) cd) (zs.drop (ghd (bgz zs))))) := by
  obtain ⟨ad, cd, rfl, hl1, hm1⟩ := hI.slice
  have hb0 : Below w.heap.size w ((w.alloc (.cells #[.int .u8 tos, .int .u16 id, .bool keep, .int .u8 ttl, .int .u8 proto, .int .u32 src, .int .u32 dst, so, .slice ad zs.length cd] 78)).alloc (.cells zf.toArray 160)) := ((Below.refl _ _).alloc (Nat.le_refl _) _).alloc (by simp) _
  have r0 : ((w.alloc (.cells #[.int .u8 tos, .int .u16 id, .bool keep, .int .u8 ttl, .int .u8 proto, .int .u32 src, .int .u32 dst, so, .slice ad zs.length cd] 78)).alloc (.cells zf.toArray 160)).heap[w.heap.size + 1]? = some (.cells zf.toArray 160 (0, 0)) := by have := heap_alloc_new (w.alloc (.cells #[.int .u8 tos, .int .u16 id, .bool keep, .int .u8 ttl, .int .u8 proto, .int .u32 src, .int .u32 dst, so, .slice ad zs.length cd] 78)) (.cells zf.toArray 160); simpa using this
  have hs0 : ((w.alloc (.cells #[.int .u8 tos, .int .u16 id, .bool keep, .int .u8 ttl, .int .u8 proto, .int .u32 src, .int .u32 dst, so, .slice ad zs.length cd] 78)).alloc (.cells zf.toArray 160)).heap.size = w.heap.size + 1 + 1 := by simp
  have R0 := hide r0
  have HS := hide hs0
  clear r0 hs0
  by_cases c1 : proto = 47
  · have t1 : (proto != 47) = false := by simp [c1]
    have C1 := hide c1
    clear c1
    by_cases c2 : zs.length < 8
    · have t2 : (zs.length : Int) < 8 := by omega
      have HF : Hid (pge proto zs = 3) := by show _ = _; unfold pge; rw [if_neg (by simp [C1.out]), if_pos c2]
      go_enter Tryz.func221, Tryz.ntmps221
      go_wp2_with fail
      exact bodyPost_ret (v := .tuple #[.agg zf.toArray, .int .i64 3]) (by simp [results, Tryz.results221, go_sem]) rfl ⟨hb0, .inl ⟨by rw [HF.out]; decide, by rw [HF.out]⟩⟩
    · have t2 : ¬ (zs.length : Int) < 8 := by omega
      have hT0 : Tb ((w.alloc (.cells #[.int .u8 tos, .int .u16 id, .bool keep, .int .u8 ttl, .int .u8 proto, .int .u32 src, .int .u32 dst, so, .slice ad zs.length cd] 78)).alloc (.cells zf.toArray 160)) := hT.below hb0 hT.pos
      go_enter Tryz.func221, Tryz.ntmps221
      go_upto_region 6 with fail
      generalize (w.alloc (.cells #[.int .u8 tos, .int .u16 id, .bool keep, .int .u8 ttl, .int .u8 proto, .int .u32 src, .int .u32 dst, so, .slice ad zs.length cd] 78)).alloc (.cells zf.toArray 160) = W0 at *
      obtain ⟨b, off, cap, e0, hlc, hmc, hbb, hcs⟩ := hI.cells (by omega)
      have hcl := e0
      simp at hcl
      obtain ⟨rfl, rfl⟩ := hcl
      clear e0
      have d0 := ((hb0.cell (p := ⟨b, off + 0, none⟩) hbb).trans (hcs 0 (by omega)))
      have d1 := ((hb0.cell (p := ⟨b, off + 1, none⟩) hbb).trans (hcs 1 (by omega)))
      have d2 := ((hb0.cell (p := ⟨b, off + 2, none⟩) hbb).trans (hcs 2 (by omega)))
      have d3 := ((hb0.cell (p := ⟨b, off + 3, none⟩) hbb).trans (hcs 3 (by omega)))
      rw [Nat.add_zero] at d0
      have HZ0 : Hid (bgz zs = bgo (zs[0]?.getD 0) (zs[1]?.getD 0) (zs[2]?.getD 0) (zs[3]?.getD 0)) := rfl
      clear hcs
      generalize zs[0]?.getD 0 = z0 at *
      generalize zs[1]?.getD 0 = z1 at *
      generalize zs[2]?.getD 0 = z2 at *
      generalize zs[3]?.getD 0 = z3 at *
      have har := run_arrayAt (P := Tryz.prog) (w := W0) 351 5 4 (some ⟨b, off, none⟩) zs.length cd Tryz.underlying351 (by omega)
      go_wp2_with fail
      refine (bitsOf_any z0 z1 z2 z3 W0 hT0).mono ?_
      rw [← HZ0.out]
      obtain ⟨n, HN⟩ : ∃ n, Hid (bgz zs = n) := ⟨_, rfl⟩
      have hn4 : n ≤ 4 := by rw [← HN.out, HZ0.out]; exact bgo_le _ _ _ _
      rw [HN.out]
      rintro e w1 ⟨rfl, hb1⟩
      have hw1 : Below w.heap.size w w1 := hb0.trans (hb1.mono hb0.size)
      have r1 := (hb1.block (w.heap.size + 1) (by have := HS.out; omega)).trans R0.out
      have hs1 : w.heap.size + 1 + 1 ≤ w1.heap.size := by have := hb1.size; have := HS.out; omega
      clear d0 d1 d2 d3 har
      by_cases c3 : n = 4
      · subst c3
        have HF : Hid (pge proto zs = 4) := by show _ = _; unfold pge; rw [if_neg (by simp [C1.out]), if_neg c2, if_pos HN.out]
        rw [show bgk 4 = false from rfl, show bgv 4 = 0 from rfl]
        have RR := block_cell r1
        have SS := block_frozen r1
        go_wp2_with fail
        generalize hV : (((((w1.setCell ⟨w.heap.size + 1, 0, none⟩ _).setCell ⟨w.heap.size + 1, 1, none⟩ _).setCell ⟨w.heap.size + 1, 2, none⟩ _).setCell ⟨w.heap.size + 1, 3, none⟩ _).setCell ⟨w.heap.size + 1, 4, none⟩ _).setCell ⟨w.heap.size + 1, 5, none⟩ _ = V8
        have hV9 : V8 = putRow w1 (w.heap.size + 1) 0 zf := hV.symm
        have hb8 : But (fun b => b = w.heap.size + 1) w1 V8 := by rw [hV9]; exact putRow_but (E := fun b => b = w.heap.size + 1) (n := w.heap.size + 1) rfl _ _ _ _ (But.refl _ _)
        have p8 := putRow_all zf r1 rfl
        rw [← hV9] at p8
        clear hV hV9
        have P8 := block_cell p8
        have hw8 : Below w.heap.size w V8 := (hw1).trans (hb8.below (hw1).size (fun k h e => by omega))
        exact bodyPost_ret (v := .tuple #[.agg zf.toArray, .int .i64 4]) (by simp [results, Tryz.results221, go_sem, P8]) rfl (⟨hw8, .inl ⟨by rw [HF.out]; decide, by rw [HF.out]⟩⟩)
      · rw [show bgk n = true from by simp [bgk, c3], show bgv n = (n : Int) from by simp [bgv, c3]]
        have hn3 : n ≤ 3 := by omega
        clear c3
        go_wp2_with fail
        refine (frameHead_any n hn3 _ zs hB w1 ((hI.below hw1).mono hw1.size)).mono ?_
        rintro e w2 ⟨rfl, hb2⟩
        have hw2 : Below w.heap.size w w2 := hw1.trans (hb2.mono hw1.size)
        have r2 := (hb2.block (w.heap.size + 1) (by omega)).trans r1
        have hs2 : w.heap.size + 1 + 1 ≤ w2.heap.size := Nat.le_trans hs1 hb2.size
        have f3 := heap_alloc_new w2 (.cells #[.int .u16 (getAt2 zs 6), .bool (ghs n), .bool (gha n), .int .u32 (gsq n zs), .int .u32 (gak n zs), .slice none 0 0] 160)
        have hA := (Below.refl w2.heap.size w2).alloc (Nat.le_refl _) (.cells #[.int .u16 (getAt2 zs 6), .bool (ghs n), .bool (gha n), .int .u32 (gsq n zs), .int .u32 (gak n zs), .slice none 0 0] 160)
        go_wp2_with fail
        generalize w2.alloc (.cells #[.int .u16 (getAt2 zs 6), .bool (ghs n), .bool (gha n), .int .u32 (gsq n zs), .int .u32 (gak n zs), .slice none 0 0] 160) = w3 at *
        have hw3 : Below w.heap.size w w3 := hw2.trans (hA.mono hw2.size)
        have r3 := (hA.block (w.heap.size + 1) (by omega)).trans r2
        refine (get16_rd _ zs hB 4 (by omega) w3 (hI.below hw3)).mono ?_
        rintro e w4 ⟨rfl, q4, hq4⟩
        have hw4 : Below w.heap.size w w4 := by rw [hq4]; exact below_draw hw3 q4
        have r4 : w4.heap[w.heap.size + 1]? = some (.cells zf.toArray 160 (0, 0)) := by rw [hq4]; exact r3
        have f4 : w4.heap[w2.heap.size]? = some (.cells #[.int .u16 (getAt2 zs 6), .bool (ghs n), .bool (gha n), .int .u32 (gsq n zs), .int .u32 (gak n zs), .slice none 0 0] 160 (0, 0)) := by rw [hq4]; exact f3
        clear hq4
        have hgd := ghd_bd n
        have hwd := wat_bd hB 4
        obtain ⟨hd, hhd⟩ : ∃ hd, ghd n = hd := ⟨_, rfl⟩
        have HHD := hide hhd
        rw [hhd] at hgd ⊢
        clear hhd
        have HW4 : Hid (wat zs 4 = wat zs 4) := rfl
        obtain ⟨wl, HWL⟩ : ∃ wl, Hid (wat zs 4 = wl) := ⟨_, rfl⟩
        rw [HWL.out] at hwd ⊢
        by_cases c4 : (zs.length : Int) < hd + wl
        · have HF : Hid (pge proto zs = 3) := by show _ = _; unfold pge; rw [if_neg (by simp [C1.out]), if_neg c2, HN.out, if_neg (by omega), HHD.out, HWL.out, if_pos c4]
          have RR := block_cell r4
          have SS := block_frozen r4
          go_wp2_with fail
          generalize hV : (((((w4.setCell ⟨w.heap.size + 1, 0, none⟩ _).setCell ⟨w.heap.size + 1, 1, none⟩ _).setCell ⟨w.heap.size + 1, 2, none⟩ _).setCell ⟨w.heap.size + 1, 3, none⟩ _).setCell ⟨w.heap.size + 1, 4, none⟩ _).setCell ⟨w.heap.size + 1, 5, none⟩ _ = V8
          have hV9 : V8 = putRow w4 (w.heap.size + 1) 0 zf := hV.symm
          have hb8 : But (fun b => b = w.heap.size + 1) w4 V8 := by rw [hV9]; exact putRow_but (E := fun b => b = w.heap.size + 1) (n := w.heap.size + 1) rfl _ _ _ _ (But.refl _ _)
          have p8 := putRow_all zf r4 rfl
          rw [← hV9] at p8
          clear hV hV9
          have P8 := block_cell p8
          have hw8 : Below w.heap.size w V8 := (hw4).trans (hb8.below (hw4).size (fun k h e => by omega))
          exact bodyPost_ret (v := .tuple #[.agg zf.toArray, .int .i64 3]) (by simp [results, Tryz.results221, go_sem, P8]) rfl (⟨hw8, .inl ⟨by rw [HF.out]; decide, by rw [HF.out]⟩⟩)
        · by_cases c5 : (hd : Int) + wl < zs.length
          · have HF : Hid (pge proto zs = 4) := by show _ = _; unfold pge; rw [if_neg (by simp [C1.out]), if_neg c2, HN.out, if_neg (by omega), HHD.out, HWL.out, if_neg c4, if_pos c5]
            have RR := block_cell r4
            have SS := block_frozen r4
            go_wp2_with fail
            generalize hV : (((((w4.setCell ⟨w.heap.size + 1, 0, none⟩ _).setCell ⟨w.heap.size + 1, 1, none⟩ _).setCell ⟨w.heap.size + 1, 2, none⟩ _).setCell ⟨w.heap.size + 1, 3, none⟩ _).setCell ⟨w.heap.size + 1, 4, none⟩ _).setCell ⟨w.heap.size + 1, 5, none⟩ _ = V8
            have hV9 : V8 = putRow w4 (w.heap.size + 1) 0 zf := hV.symm
            have hb8 : But (fun b => b = w.heap.size + 1) w4 V8 := by rw [hV9]; exact putRow_but (E := fun b => b = w.heap.size + 1) (n := w.heap.size + 1) rfl _ _ _ _ (But.refl _ _)
            have p8 := putRow_all zf r4 rfl
            rw [← hV9] at p8
            clear hV hV9
            have P8 := block_cell p8
            have hw8 : Below w.heap.size w V8 := (hw4).trans (hb8.below (hw4).size (fun k h e => by omega))
            exact bodyPost_ret (v := .tuple #[.agg zf.toArray, .int .i64 4]) (by simp [results, Tryz.results221, go_sem, P8]) rfl (⟨hw8, .inl ⟨by rw [HF.out]; decide, by rw [HF.out]⟩⟩)
          · have HF : Hid (pge proto zs = 0) := by show _ = _; unfold pge; rw [if_neg (by simp [C1.out]), if_neg c2, HN.out, if_neg (by omega), HHD.out, HWL.out, if_neg c4, if_neg c5]
            have i1 : (hd : Int) ≤ zs.length := by omega
            have i1n : hd ≤ zs.length := by omega
            have i2 : (zs.length : Int) ≤ cd := by omega
            have i0 : (0 : Int) ≤ hd := by omega
            by_cases hcd : cd = hd
            · subst hcd
              have hcut := (hI.below hw4).cutAt cd i1n
              have hz : zs.length - cd = 0 := by omega
              have HZZ := hide hz
              rw [if_pos rfl, Nat.sub_self, hz] at hcut
              clear hz
              go_wp2_with fail
              refine (cloneb_any _ (zs.drop cd) w4 (by simp; omega) (hcut.mono hw4.size)).mono ?_
              rw [List.length_drop, HZZ.out]
              rintro e w5 ⟨a5, c5, rfl, hO5, hb5⟩
              have hw5 : Below w.heap.size w w5 := hw4.trans (hb5.mono hw4.size)
              have hlt4 := (Array.getElem?_eq_some_iff.1 f4).1
              have r5 := (hb5.block (w.heap.size + 1) (by omega)).trans r4
              have f5 := (hb5.block w2.heap.size hlt4).trans f4
              have K5 := block_cell f5
              have L5 := block_frozen f5
              have f6 := heap_set1 f5 5 (.slice a5 0 c5)
              have hw6 := hw5.setCell (p := ⟨w2.heap.size, 5, none⟩) (show w.heap.size ≤ w2.heap.size by omega) (.slice a5 0 c5)
              have r6 := (Below.heap_setCell w5 ⟨w2.heap.size, 5, none⟩ (.slice a5 0 c5) (w.heap.size + 1) (by simp; omega)).trans r5
              have hE6 : But (fun b => b = w2.heap.size) w5 (w5.setCell ⟨w2.heap.size, 5, none⟩ (.slice a5 0 c5)) := (But.refl (fun b => b = w2.heap.size) w5).setCell (p := ⟨w2.heap.size, 5, none⟩) rfl _
              have hO6 := hO5.but hE6 (fun b h e => by omega)
              have R6 := block_cell r6
              have S6 := block_frozen r6
              have hne : ¬ w2.heap.size = w.heap.size + 1 := by omega
              have hne2 : ¬ w.heap.size + 1 = w2.heap.size := by omega
              go_wp2_with fail
              generalize w5.setCell ⟨w2.heap.size, 5, none⟩ (.slice a5 0 c5) = w6 at *
              clear K5 L5
              have r6' : w6.heap[w.heap.size + 1]? = some (.cells zf.toArray 160 (0, 0)) := r6
              generalize hV : (((((w6.setCell ⟨w.heap.size + 1, 0, none⟩ _).setCell ⟨w.heap.size + 1, 1, none⟩ _).setCell ⟨w.heap.size + 1, 2, none⟩ _).setCell ⟨w.heap.size + 1, 3, none⟩ _).setCell ⟨w.heap.size + 1, 4, none⟩ _).setCell ⟨w.heap.size + 1, 5, none⟩ _ = V8
              have hV9 : V8 = putRow w6 (w.heap.size + 1) 0 [.int .u16 (getAt2 zs 6), .bool (ghs n), .bool (gha n), .int .u32 (gsq n zs), .int .u32 (gak n zs), .slice a5 0 c5] := hV.symm
              have hb8 : But (fun b => b = w.heap.size + 1) w6 V8 := by rw [hV9]; exact putRow_but (E := fun b => b = w.heap.size + 1) (n := w.heap.size + 1) rfl _ _ _ _ (But.refl _ _)
              have p8 := putRow_all [.int .u16 (getAt2 zs 6), .bool (ghs n), .bool (gha n), .int .u32 (gsq n zs), .int .u32 (gak n zs), .slice a5 0 c5] r6 rfl
              rw [← hV9] at p8
              clear hV hV9
              have P8 := block_cell p8
              have hw8 : Below w.heap.size w V8 := (hw6).trans (hb8.below (hw6).size (fun k h e => by omega))
              exact bodyPost_ret (v := .tuple #[.agg #[.int .u16 (getAt2 zs 6), .bool (ghs n), .bool (gha n), .int .u32 (gsq n zs), .int .u32 (gak n zs), .slice a5 0 c5], .int .i64 0]) (by simp [results, Tryz.results221, go_sem, P8]) rfl (⟨hw8, .inr ⟨HF.out, a5, c5, by rw [HN.out, HHD.out, HZZ.out], by rw [HN.out, HHD.out, HZZ.out]; exact (hO6.but hb8 (fun b h e => by omega)).mono (by omega)⟩⟩)
            · have hcut := (hI.below hw4).cutAt hd i1n
              rw [if_neg hcd] at hcut
              go_wp2_with fail
              refine (cloneb_any _ (zs.drop hd) w4 (by simp; omega) (hcut.mono hw4.size)).mono ?_
              rw [List.length_drop]
              rintro e w5 ⟨a5, c5, rfl, hO5, hb5⟩
              have hw5 : Below w.heap.size w w5 := hw4.trans (hb5.mono hw4.size)
              have hlt4 := (Array.getElem?_eq_some_iff.1 f4).1
              have r5 := (hb5.block (w.heap.size + 1) (by omega)).trans r4
              have f5 := (hb5.block w2.heap.size hlt4).trans f4
              have K5 := block_cell f5
              have L5 := block_frozen f5
              have f6 := heap_set1 f5 5 (.slice a5 (zs.length - hd) c5)
              have hw6 := hw5.setCell (p := ⟨w2.heap.size, 5, none⟩) (show w.heap.size ≤ w2.heap.size by omega) (.slice a5 (zs.length - hd) c5)
              have r6 := (Below.heap_setCell w5 ⟨w2.heap.size, 5, none⟩ (.slice a5 (zs.length - hd) c5) (w.heap.size + 1) (by simp; omega)).trans r5
              have hE6 : But (fun b => b = w2.heap.size) w5 (w5.setCell ⟨w2.heap.size, 5, none⟩ (.slice a5 (zs.length - hd) c5)) := (But.refl (fun b => b = w2.heap.size) w5).setCell (p := ⟨w2.heap.size, 5, none⟩) rfl _
              have hO6 := hO5.but hE6 (fun b h e => by omega)
              have R6 := block_cell r6
              have S6 := block_frozen r6
              have hne : ¬ w2.heap.size = w.heap.size + 1 := by omega
              have hne2 : ¬ w.heap.size + 1 = w2.heap.size := by omega
              go_wp2_with fail
              generalize w5.setCell ⟨w2.heap.size, 5, none⟩ (.slice a5 (zs.length - hd) c5) = w6 at *
              clear K5 L5
              have r6' : w6.heap[w.heap.size + 1]? = some (.cells zf.toArray 160 (0, 0)) := r6
              generalize hV : (((((w6.setCell ⟨w.heap.size + 1, 0, none⟩ _).setCell ⟨w.heap.size + 1, 1, none⟩ _).setCell ⟨w.heap.size + 1, 2, none⟩ _).setCell ⟨w.heap.size + 1, 3, none⟩ _).setCell ⟨w.heap.size + 1, 4, none⟩ _).setCell ⟨w.heap.size + 1, 5, none⟩ _ = V8
              have hV9 : V8 = putRow w6 (w.heap.size + 1) 0 [.int .u16 (getAt2 zs 6), .bool (ghs n), .bool (gha n), .int .u32 (gsq n zs), .int .u32 (gak n zs), .slice a5 (zs.length - hd) c5] := hV.symm
              have hb8 : But (fun b => b = w.heap.size + 1) w6 V8 := by rw [hV9]; exact putRow_but (E := fun b => b = w.heap.size + 1) (n := w.heap.size + 1) rfl _ _ _ _ (But.refl _ _)
              have p8 := putRow_all [.int .u16 (getAt2 zs 6), .bool (ghs n), .bool (gha n), .int .u32 (gsq n zs), .int .u32 (gak n zs), .slice a5 (zs.length - hd) c5] r6 rfl
              rw [← hV9] at p8
              clear hV hV9
              have P8 := block_cell p8
              have hw8 : Below w.heap.size w V8 := (hw6).trans (hb8.below (hw6).size (fun k h e => by omega))
              exact bodyPost_ret (v := .tuple #[.agg #[.int .u16 (getAt2 zs 6), .bool (ghs n), .bool (gha n), .int .u32 (gsq n zs), .int .u32 (gak n zs), .slice a5 (zs.length - hd) c5], .int .i64 0]) (by simp [results, Tryz.results221, go_sem, P8]) rfl (⟨hw8, .inr ⟨HF.out, a5, c5, by rw [HN.out, HHD.out], by rw [HN.out, HHD.out]; exact (hO6.but hb8 (fun b h e => by omega)).mono (by omega)⟩⟩)
  · have t1 : (proto != 47) = true := by simp [c1]
    have HF : Hid (pge proto zs = 12) := by show _ = _; unfold pge; rw [if_pos c1]
    clear c1
    go_enter Tryz.func221, Tryz.ntmps221
    go_wp2_with fail
    exact bodyPost_ret (v := .tuple #[.agg zf.toArray, .int .i64 12]) (by simp [results, Tryz.results221, go_sem]) rfl ⟨hb0, .inl ⟨by rw [HF.out]; decide, by rw [HF.out]⟩⟩
end Go.Proofs.YtohflohdbkamnaaGreatDoor

/- Package ctrl: what kind a message is; the law's 'live' of layer 4. -/
namespace Go.Proofs.YtohflohdbkamnaaGreatDoor
open Go.RowKit Go.Shelf
set_option maxRecDepth 100000
set_option linter.unusedVariables false
set_option linter.unusedSimpArgs false

set_option maxHeartbeats 1000000 in
theorem asks_any (ty cde rest : Int) (sm : Value) (w : World) :
    Calls Tryz.prog 229 #[.agg #[.int .u8 ty, .int .u8 cde, .int .u32 rest, sm]] w fun e w' => e = .returned (.bool (ty == 8 && cde == 0)) ∧ Below w.heap.size w w' := by
  have hbox : Below w.heap.size w (w.alloc (.cells #[.int .u8 ty, .int .u8 cde, .int .u32 rest, sm] 154)) := (Below.refl _ _).alloc (Nat.le_refl _) _
  cases h1 : (ty == 8)
  · go_enter Tryz.func229, Tryz.ntmps229
    go_wp2
    go_ret
    exact ⟨rfl, hbox⟩
  · go_enter Tryz.func229, Tryz.ntmps229
    go_wp2
    go_ret
    exact ⟨rfl, hbox⟩

set_option maxHeartbeats 1000000 in
theorem isEcho_any (ty cde rest : Int) (sm : Value) (w : World) :
    Calls Tryz.prog 257 #[.agg #[.int .u8 ty, .int .u8 cde, .int .u32 rest, sm]] w fun e w' => e = .returned (.bool ((ty == 8 || ty == 0) && cde == 0)) ∧ Below w.heap.size w w' := by
  have hbox : Below w.heap.size w (w.alloc (.cells #[.int .u8 ty, .int .u8 cde, .int .u32 rest, sm] 154)) := (Below.refl _ _).alloc (Nat.le_refl _) _
  have hk := heap_alloc_new w (.cells #[.int .u8 ty, .int .u8 cde, .int .u32 rest, sm] 154)
  have HK := hide hk
  clear hk
  cases h1 : (ty == 8)
  · cases h2 : (ty == 0)
    · go_enter Tryz.func257, Tryz.ntmps257
      go_wp2_with fail
      refine (asks_any ty cde rest sm _).mono ?_
      rw [h1]
      rintro e w1 ⟨rfl, hb1⟩
      have K1 := block_cell ((hb1.block w.heap.size (by simp)).trans HK.out)
      go_wp2
      go_ret
      exact ⟨rfl, hbox.trans (hb1.mono (by simp))⟩
    · go_enter Tryz.func257, Tryz.ntmps257
      go_wp2_with fail
      refine (asks_any ty cde rest sm _).mono ?_
      rw [h1]
      rintro e w1 ⟨rfl, hb1⟩
      have K1 := block_cell ((hb1.block w.heap.size (by simp)).trans HK.out)
      go_wp2
      go_ret
      exact ⟨rfl, hbox.trans (hb1.mono (by simp))⟩
  · have h2 : (ty == 0) = false := by simp at h1 ⊢; omega
    cases h3 : (cde == 0)
    · go_enter Tryz.func257, Tryz.ntmps257
      go_wp2_with fail
      refine (asks_any ty cde rest sm _).mono ?_
      rw [h1, h3]
      rintro e w1 ⟨rfl, hb1⟩
      have K1 := block_cell ((hb1.block w.heap.size (by simp)).trans HK.out)
      go_wp2
      go_ret
      exact ⟨rfl, hbox.trans (hb1.mono (by simp))⟩
    · go_enter Tryz.func257, Tryz.ntmps257
      go_wp2_with fail
      refine (asks_any ty cde rest sm _).mono ?_
      rw [h1, h3]
      rintro e w1 ⟨rfl, hb1⟩
      have K1 := block_cell ((hb1.block w.heap.size (by simp)).trans HK.out)
      go_wp2
      go_ret
      exact ⟨rfl, hbox.trans (hb1.mono (by simp))⟩

end Go.Proofs.YtohflohdbkamnaaGreatDoor

/- Layer 5: ofTcp, ofNumber, ofIcmp, ofGre; Of of a protocol that has no reader. -/
namespace Go.Proofs.YtohflohdbkamnaaGreatDoor
open Go.RowKit Go.Shelf
set_option maxRecDepth 100000
set_option linter.unusedVariables false
set_option linter.unusedSimpArgs false

set_option maxHeartbeats 4000000 in
theorem ofTcp_any (tos id ttl proto src dst : Int) (keep : Bool) (so sd : Value) (zd : List Int) (w : World) (hB : Mt.By zd) (hI : Rd w.heap.size w sd zd) (hl : 12 + zd.length ≤ 140737488355328) (hsr : 0 ≤ src ∧ src ≤ 4294967295) (hds : 0 ≤ dst ∧ dst ≤ 4294967295) :
    Calls Tryz.prog 170 #[.agg #[.int .u8 tos, .int .u16 id, .bool keep, .int .u8 ttl, .int .u8 proto, .int .u32 src, .int .u32 dst, so, sd]] w fun e w' => Below w.heap.size w w' ∧ ∃ a b : Int, e = .returned (.tuple #[.agg #[.int .u16 a, .int .u16 b], .int .i64 (pte proto src dst zd)]) ∧ (pte proto src dst zd = 0 → a = wat zd 0 ∧ b = wat zd 2) := by
  obtain ⟨ad, cd, rfl, _, _⟩ := hI.slice
  have hb0 : Below w.heap.size w ((w.alloc (.cells #[.int .u8 tos, .int .u16 id, .bool keep, .int .u8 ttl, .int .u8 proto, .int .u32 src, .int .u32 dst, so, .slice ad zd.length cd] 78)).alloc (.cells #[.int .u16 0, .int .u16 0] 246)) := ((Below.refl _ _).alloc (Nat.le_refl _) _).alloc (by simp) _
  have r0 := heap_alloc_new (w.alloc (.cells #[.int .u8 tos, .int .u16 id, .bool keep, .int .u8 ttl, .int .u8 proto, .int .u32 src, .int .u32 dst, so, .slice ad zd.length cd] 78)) (.cells #[.int .u16 0, .int .u16 0] 246)
  rw [World.size_alloc] at r0
  have R0 := hide r0
  clear r0
  go_enter Tryz.func170, Tryz.ntmps170
  go_wp2_with fail
  generalize (w.alloc (.cells #[.int .u8 tos, .int .u16 id, .bool keep, .int .u8 ttl, .int .u8 proto, .int .u32 src, .int .u32 dst, so, .slice ad zd.length cd] 78)).alloc (.cells #[.int .u16 0, .int .u16 0] 246) = w0 at *
  refine (parseTcp_any tos id ttl proto src dst keep _ _ zd w0 hB ((hI.below hb0).mono hb0.size) (by omega) hsr hds).mono ?_
  rintro e w1 ⟨hb1, ⟨hf, rfl⟩ | ⟨hf, os, aO, cO, a1, c1, _, rfl, hO, _⟩⟩
  · rw [show zsg.toArray = #[.int .u16 0, .int .u16 0, .int .u32 0, .int .u32 0, .int .u8 0, .int .u16 0, .int .u16 0, .slice none 0 0, .slice none 0 0] from rfl]
    generalize hpu : pte proto src dst zd = f at *
    have HPU := hide hpu
    have HF := hide hf
    clear hf hpu
    have lq : Later w1 (w1.alloc (.cells #[.int .u16 0, .int .u16 0, .int .u32 0, .int .u32 0, .int .u8 0, .int .u16 0, .int .u16 0, .slice none 0 0, .slice none 0 0] 148)) := (Below.refl _ _).alloc (Nat.le_refl _) _
    have l1 := Later.trans hb1 lq
    have r1 := (l1.block _ (Array.getElem?_eq_some_iff.1 R0.out).1).trans R0.out
    have hw1 := hb0.trans (l1.mono hb0.size)
    have kX := block_cell r1
    have fX := block_frozen r1
    go_wp2_with fail
    generalize w1.alloc (.cells #[.int .u16 0, .int .u16 0, .int .u32 0, .int .u32 0, .int .u8 0, .int .u16 0, .int .u16 0, .slice none 0 0, .slice none 0 0] 148) = W at *
    generalize hV : (W.setCell ⟨w.heap.size + 1, 0, none⟩ _).setCell ⟨w.heap.size + 1, 1, none⟩ _ = V
    have hV8 : V = putRow W (w.heap.size + 1) 0 [.int .u16 (0), .int .u16 (0)] := hV.symm
    have hbV : But (fun b => b = w.heap.size + 1) W V := by rw [hV8]; exact putRow_but (E := fun b => b = w.heap.size + 1) (n := w.heap.size + 1) rfl _ _ _ _ (But.refl _ _)
    have pV := putRow_all [Value.int .u16 (0), .int .u16 (0)] r1 rfl
    rw [← hV8] at pV
    clear hV hV8 kX fX
    have PV := block_cell pV
    have hwV : Below w.heap.size w V := hw1.trans (hbV.below hw1.size (fun k hk e => by omega))
    exact bodyPost_ret (v := .tuple #[.agg #[.int .u16 (0), .int .u16 (0)], .int .i64 f]) (by simp [results, Tryz.results170, go_sem, PV]) rfl ⟨hwV, _, _, by rw [HPU.out], fun h => absurd (HPU.out.symm.trans h) HF.out⟩
  · have HF := hide hf
    clear hf
    have lq : Later w1 (w1.alloc (.cells #[.int .u16 (wat zd 0), .int .u16 (wat zd 2), .int .u32 (wat4 zd 4), .int .u32 (wat4 zd 8), .int .u8 (zd[13]?.getD 0), .int .u16 (wat zd 14), .int .u16 (wat zd 18), .slice aO os.length cO, .slice a1 (zd.length - (thd zd).toNat) c1] 148)) := (Below.refl _ _).alloc (Nat.le_refl _) _
    have l1 := Later.trans hb1 lq
    have r1 := (l1.block _ (Array.getElem?_eq_some_iff.1 R0.out).1).trans R0.out
    have hw1 := hb0.trans (l1.mono hb0.size)
    have kX := block_cell r1
    have fX := block_frozen r1
    go_wp2_with fail
    generalize w1.alloc (.cells #[.int .u16 (wat zd 0), .int .u16 (wat zd 2), .int .u32 (wat4 zd 4), .int .u32 (wat4 zd 8), .int .u8 (zd[13]?.getD 0), .int .u16 (wat zd 14), .int .u16 (wat zd 18), .slice aO os.length cO, .slice a1 (zd.length - (thd zd).toNat) c1] 148) = W at *
    generalize hV : (W.setCell ⟨w.heap.size + 1, 0, none⟩ _).setCell ⟨w.heap.size + 1, 1, none⟩ _ = V
    have hV8 : V = putRow W (w.heap.size + 1) 0 [.int .u16 (wat zd 0), .int .u16 (wat zd 2)] := hV.symm
    have hbV : But (fun b => b = w.heap.size + 1) W V := by rw [hV8]; exact putRow_but (E := fun b => b = w.heap.size + 1) (n := w.heap.size + 1) rfl _ _ _ _ (But.refl _ _)
    have pV := putRow_all [Value.int .u16 (wat zd 0), .int .u16 (wat zd 2)] r1 rfl
    rw [← hV8] at pV
    clear hV hV8 kX fX
    have PV := block_cell pV
    have hwV : Below w.heap.size w V := hw1.trans (hbV.below hw1.size (fun k hk e => by omega))
    exact bodyPost_ret (v := .tuple #[.agg #[.int .u16 (wat zd 0), .int .u16 (wat zd 2)], .int .i64 0]) (by simp [results, Tryz.results170, go_sem, PV]) rfl ⟨hwV, _, _, by rw [HF.out], fun _ => ⟨rfl, rfl⟩⟩

set_option maxHeartbeats 4000000 in
theorem ofGre_any (tos id ttl proto src dst : Int) (keep : Bool) (so sd : Value) (zd : List Int) (w : World) (hT : Tb w) (hB : Mt.By zd) (hI : Rd w.heap.size w sd zd) (hl : 12 + zd.length ≤ 140737488355328) (hsr : 0 ≤ src ∧ src ≤ 4294967295) (hds : 0 ≤ dst ∧ dst ≤ 4294967295) :
    Calls Tryz.prog 175 #[.agg #[.int .u8 tos, .int .u16 id, .bool keep, .int .u8 ttl, .int .u8 proto, .int .u32 src, .int .u32 dst, so, sd]] w fun e w' => Below w.heap.size w w' ∧ ∃ a b : Int, e = .returned (.tuple #[.agg #[.int .u16 a, .int .u16 b], .int .i64 (pge proto zd)]) ∧ (pge proto zd = 0 → a = 0 ∧ b = getAt2 zd 6) := by
  obtain ⟨ad, cd, rfl, _, _⟩ := hI.slice
  have hb0 : Below w.heap.size w ((w.alloc (.cells #[.int .u8 tos, .int .u16 id, .bool keep, .int .u8 ttl, .int .u8 proto, .int .u32 src, .int .u32 dst, so, .slice ad zd.length cd] 78)).alloc (.cells #[.int .u16 0, .int .u16 0] 246)) := ((Below.refl _ _).alloc (Nat.le_refl _) _).alloc (by simp) _
  have r0 := heap_alloc_new (w.alloc (.cells #[.int .u8 tos, .int .u16 id, .bool keep, .int .u8 ttl, .int .u8 proto, .int .u32 src, .int .u32 dst, so, .slice ad zd.length cd] 78)) (.cells #[.int .u16 0, .int .u16 0] 246)
  rw [World.size_alloc] at r0
  have R0 := hide r0
  clear r0
  go_enter Tryz.func175, Tryz.ntmps175
  go_wp2_with fail
  generalize (w.alloc (.cells #[.int .u8 tos, .int .u16 id, .bool keep, .int .u8 ttl, .int .u8 proto, .int .u32 src, .int .u32 dst, so, .slice ad zd.length cd] 78)).alloc (.cells #[.int .u16 0, .int .u16 0] 246) = w0 at *
  refine (parseGre_any tos id ttl proto src dst keep _ _ zd w0 (hT.below hb0 hT.pos) hB ((hI.below hb0).mono hb0.size) (by omega)).mono ?_
  rintro e w1 ⟨hb1, ⟨hf, rfl⟩ | ⟨hf, a1, c1, rfl, hO⟩⟩
  · rw [show zf.toArray = #[.int .u16 0, .bool false, .bool false, .int .u32 0, .int .u32 0, .slice none 0 0] from rfl]
    generalize hpu : pge proto zd = f at *
    have HPU := hide hpu
    have HF := hide hf
    clear hf hpu
    have lq : Later w1 (w1.alloc (.cells #[.int .u16 0, .bool false, .bool false, .int .u32 0, .int .u32 0, .slice none 0 0] 160)) := (Below.refl _ _).alloc (Nat.le_refl _) _
    have l1 := Later.trans hb1 lq
    have r1 := (l1.block _ (Array.getElem?_eq_some_iff.1 R0.out).1).trans R0.out
    have hw1 := hb0.trans (l1.mono hb0.size)
    have kX := block_cell r1
    have fX := block_frozen r1
    go_wp2_with fail
    generalize w1.alloc (.cells #[.int .u16 0, .bool false, .bool false, .int .u32 0, .int .u32 0, .slice none 0 0] 160) = W at *
    generalize hV : (W.setCell ⟨w.heap.size + 1, 0, none⟩ _).setCell ⟨w.heap.size + 1, 1, none⟩ _ = V
    have hV8 : V = putRow W (w.heap.size + 1) 0 [.int .u16 (0), .int .u16 (0)] := hV.symm
    have hbV : But (fun b => b = w.heap.size + 1) W V := by rw [hV8]; exact putRow_but (E := fun b => b = w.heap.size + 1) (n := w.heap.size + 1) rfl _ _ _ _ (But.refl _ _)
    have pV := putRow_all [Value.int .u16 (0), .int .u16 (0)] r1 rfl
    rw [← hV8] at pV
    clear hV hV8 kX fX
    have PV := block_cell pV
    have hwV : Below w.heap.size w V := hw1.trans (hbV.below hw1.size (fun k hk e => by omega))
    exact bodyPost_ret (v := .tuple #[.agg #[.int .u16 (0), .int .u16 (0)], .int .i64 f]) (by simp [results, Tryz.results175, go_sem, PV]) rfl ⟨hwV, _, _, by rw [HPU.out], fun h => absurd (HPU.out.symm.trans h) HF.out⟩
  · have HF := hide hf
    clear hf
    have lq : Later w1 (w1.alloc (.cells #[.int .u16 (getAt2 zd 6), .bool (ghs (bgz zd)), .bool (gha (bgz zd)), .int .u32 (gsq (bgz zd) zd), .int .u32 (gak (bgz zd) zd), .slice a1 (zd.length - ghd (bgz zd)) c1] 160)) := (Below.refl _ _).alloc (Nat.le_refl _) _
    have l1 := Later.trans hb1 lq
    have r1 := (l1.block _ (Array.getElem?_eq_some_iff.1 R0.out).1).trans R0.out
    have hw1 := hb0.trans (l1.mono hb0.size)
    have kX := block_cell r1
    have fX := block_frozen r1
    go_wp2_with fail
    generalize w1.alloc (.cells #[.int .u16 (getAt2 zd 6), .bool (ghs (bgz zd)), .bool (gha (bgz zd)), .int .u32 (gsq (bgz zd) zd), .int .u32 (gak (bgz zd) zd), .slice a1 (zd.length - ghd (bgz zd)) c1] 160) = W at *
    generalize hV : (W.setCell ⟨w.heap.size + 1, 0, none⟩ _).setCell ⟨w.heap.size + 1, 1, none⟩ _ = V
    have hV8 : V = putRow W (w.heap.size + 1) 0 [.int .u16 0, .int .u16 (getAt2 zd 6)] := hV.symm
    have hbV : But (fun b => b = w.heap.size + 1) W V := by rw [hV8]; exact putRow_but (E := fun b => b = w.heap.size + 1) (n := w.heap.size + 1) rfl _ _ _ _ (But.refl _ _)
    have pV := putRow_all [Value.int .u16 0, .int .u16 (getAt2 zd 6)] r1 rfl
    rw [← hV8] at pV
    clear hV hV8 kX fX
    have PV := block_cell pV
    have hwV : Below w.heap.size w V := hw1.trans (hbV.below hw1.size (fun k hk e => by omega))
    exact bodyPost_ret (v := .tuple #[.agg #[.int .u16 0, .int .u16 (getAt2 zd 6)], .int .i64 0]) (by simp [results, Tryz.results175, go_sem, PV]) rfl ⟨hwV, _, _, by rw [HF.out], fun _ => ⟨rfl, rfl⟩⟩

def ecb (ty cde : Int) : Bool := (ty == 8 || ty == 0) && cde == 0
def oie (zs : List Int) : Int := if pie 1 zs ≠ 0 then pie 1 zs else if ecb (zs[0]?.getD 0) (zs[1]?.getD 0) = true then 0 else 12

set_option maxHeartbeats 2000000 in
theorem ofNumber_any (ty cde rest num : Int) (sm : Value) (w : World) :
    Calls Tryz.prog 220 #[.agg #[.int .u8 ty, .int .u8 cde, .int .u32 rest, sm], .int .u16 num] w fun e w' => Below w.heap.size w w' ∧ ((ecb ty cde = true ∧ e = .returned (.tuple #[.agg #[.int .u16 num, .int .u16 num], .int .i64 0])) ∨ (ecb ty cde = false ∧ e = .returned (.tuple #[.agg #[.int .u16 0, .int .u16 0], .int .i64 12]))) := by
  have hb0 : Below w.heap.size w ((w.alloc (.cells #[.int .u8 ty, .int .u8 cde, .int .u32 rest, sm] 154)).alloc (.cells #[.int .u16 0, .int .u16 0] 246)) := ((Below.refl _ _).alloc (Nat.le_refl _) _).alloc (by simp) _
  have r0 := heap_alloc_new (w.alloc (.cells #[.int .u8 ty, .int .u8 cde, .int .u32 rest, sm] 154)) (.cells #[.int .u16 0, .int .u16 0] 246)
  rw [World.size_alloc] at r0
  have R0 := hide r0
  clear r0
  go_enter Tryz.func220, Tryz.ntmps220
  go_wp2_with fail
  generalize (w.alloc (.cells #[.int .u8 ty, .int .u8 cde, .int .u32 rest, sm] 154)).alloc (.cells #[.int .u16 0, .int .u16 0] 246) = w0 at *
  refine (isEcho_any ty cde rest sm w0).mono ?_
  rintro e w1 ⟨rfl, hb1⟩
  have hw1 := hb0.trans (hb1.mono hb0.size)
  have r1 := (Below.block hb1 _ (Array.getElem?_eq_some_iff.1 R0.out).1).trans R0.out
  have kX := block_cell r1
  have fX := block_frozen r1
  have HE : Hid (ecb ty cde = ((ty == 8 || ty == 0) && cde == 0)) := rfl
  generalize ((ty == 8 || ty == 0) && cde == 0) = bq at *
  cases bq with
  | true =>
    go_wp2_with fail
    generalize hV : (w1.setCell ⟨w.heap.size + 1, 0, none⟩ _).setCell ⟨w.heap.size + 1, 1, none⟩ _ = V
    have hV8 : V = putRow w1 (w.heap.size + 1) 0 [.int .u16 num, .int .u16 num] := hV.symm
    have hbV : But (fun b => b = w.heap.size + 1) w1 V := by rw [hV8]; exact putRow_but (E := fun b => b = w.heap.size + 1) (n := w.heap.size + 1) rfl _ _ _ _ (But.refl _ _)
    have pV := putRow_all [Value.int .u16 num, .int .u16 num] r1 rfl
    rw [← hV8] at pV
    clear hV hV8 kX fX
    have PV := block_cell pV
    have hwV : Below w.heap.size w V := hw1.trans (hbV.below hw1.size (fun k hk e => by omega))
    exact bodyPost_ret (v := .tuple #[.agg #[.int .u16 num, .int .u16 num], .int .i64 0]) (by simp [results, Tryz.results220, go_sem, PV]) rfl ⟨hwV, .inl ⟨HE.out, rfl⟩⟩
  | false =>
    go_wp2_with fail
    generalize hV : (w1.setCell ⟨w.heap.size + 1, 0, none⟩ _).setCell ⟨w.heap.size + 1, 1, none⟩ _ = V
    have hV8 : V = putRow w1 (w.heap.size + 1) 0 [.int .u16 0, .int .u16 0] := hV.symm
    have hbV : But (fun b => b = w.heap.size + 1) w1 V := by rw [hV8]; exact putRow_but (E := fun b => b = w.heap.size + 1) (n := w.heap.size + 1) rfl _ _ _ _ (But.refl _ _)
    have pV := putRow_all [Value.int .u16 0, .int .u16 0] r1 rfl
    rw [← hV8] at pV
    clear hV hV8 kX fX
    have PV := block_cell pV
    have hwV : Below w.heap.size w V := hw1.trans (hbV.below hw1.size (fun k hk e => by omega))
    exact bodyPost_ret (v := .tuple #[.agg #[.int .u16 0, .int .u16 0], .int .i64 12]) (by simp [results, Tryz.results220, go_sem, PV]) rfl ⟨hwV, .inr ⟨HE.out, rfl⟩⟩

set_option maxHeartbeats 4000000 in
theorem ofIcmp_any (tos id ttl src dst : Int) (keep : Bool) (so sd : Value) (zd : List Int) (w : World) (hB : Mt.By zd) (hI : Rd w.heap.size w sd zd) (hl : zd.length ≤ 140737488355328) :
    Calls Tryz.prog 173 #[.agg #[.int .u8 tos, .int .u16 id, .bool keep, .int .u8 ttl, .int .u8 1, .int .u32 src, .int .u32 dst, so, sd]] w fun e w' => Below w.heap.size w w' ∧ ∃ a b : Int, e = .returned (.tuple #[.agg #[.int .u16 a, .int .u16 b], .int .i64 (oie zd)]) ∧ (oie zd = 0 → a = wat zd 4 ∧ b = wat zd 4) := by
  obtain ⟨ad, cd, rfl, _, _⟩ := hI.slice
  have hb0 : Below w.heap.size w ((w.alloc (.cells #[.int .u8 tos, .int .u16 id, .bool keep, .int .u8 ttl, .int .u8 1, .int .u32 src, .int .u32 dst, so, .slice ad zd.length cd] 78)).alloc (.cells #[.int .u16 0, .int .u16 0] 246)) := ((Below.refl _ _).alloc (Nat.le_refl _) _).alloc (by simp) _
  have r0 := heap_alloc_new (w.alloc (.cells #[.int .u8 tos, .int .u16 id, .bool keep, .int .u8 ttl, .int .u8 1, .int .u32 src, .int .u32 dst, so, .slice ad zd.length cd] 78)) (.cells #[.int .u16 0, .int .u16 0] 246)
  rw [World.size_alloc] at r0
  have R0 := hide r0
  clear r0
  go_enter Tryz.func173, Tryz.ntmps173
  go_wp2_with fail
  generalize (w.alloc (.cells #[.int .u8 tos, .int .u16 id, .bool keep, .int .u8 ttl, .int .u8 1, .int .u32 src, .int .u32 dst, so, .slice ad zd.length cd] 78)).alloc (.cells #[.int .u16 0, .int .u16 0] 246) = w0 at *
  refine (parseIcmp_any tos id ttl 1 src dst keep _ _ zd w0 hB ((hI.below hb0).mono hb0.size) hl).mono ?_
  rintro e w1 ⟨hb1, ⟨hf, rfl⟩ | ⟨hf, a1, c1, rfl, hO⟩⟩
  · rw [show zm.toArray = #[.int .u8 0, .int .u8 0, .int .u32 0, .slice none 0 0] from rfl]
    have HOE : Hid (oie zd = pie 1 zd) := if_pos hf
    generalize hpu : pie 1 zd = f at *
    have HF := hide hf
    clear hpu
    have hne : (f != 0) = true := by simp [hf]
    clear hf
    have lq : Later w1 (w1.alloc (.cells #[.int .u8 0, .int .u8 0, .int .u32 0, .slice none 0 0] 154)) := (Below.refl _ _).alloc (Nat.le_refl _) _
    have l1 := Later.trans hb1 lq
    have rX := (l1.block _ (Array.getElem?_eq_some_iff.1 R0.out).1).trans R0.out
    have hwX := hb0.trans (l1.mono hb0.size)
    have kX := block_cell rX
    have fX := block_frozen rX
    go_wp2_with fail
    generalize w1.alloc (.cells #[.int .u8 0, .int .u8 0, .int .u32 0, .slice none 0 0] 154) = W at *
    generalize hV : (W.setCell ⟨w.heap.size + 1, 0, none⟩ _).setCell ⟨w.heap.size + 1, 1, none⟩ _ = V
    have hV8 : V = putRow W (w.heap.size + 1) 0 [.int .u16 0, .int .u16 0] := hV.symm
    have hbV : But (fun b => b = w.heap.size + 1) W V := by rw [hV8]; exact putRow_but (E := fun b => b = w.heap.size + 1) (n := w.heap.size + 1) rfl _ _ _ _ (But.refl _ _)
    have pV := putRow_all ([.int .u16 0, .int .u16 0] : List Value) rX rfl
    rw [← hV8] at pV
    clear hV hV8 kX fX
    have PV := block_cell pV
    have hwV : Below w.heap.size w V := hwX.trans (hbV.below hwX.size (fun k hk e => by omega))
    exact bodyPost_ret (v := .tuple #[.agg #[.int .u16 0, .int .u16 0], .int .i64 f]) (by simp [results, Tryz.results173, go_sem, PV]) rfl ⟨hwV, _, _, by rw [HOE.out], fun h => absurd (HOE.out.symm.trans h) HF.out⟩
  · have HF := hide hf
    clear hf
    have b4 := wat_bd hB 4
    have b6 := wat_bd hB (4 + 2)
    have HW4 : Hid (wat4 zd 4 / 65536 = wat zd 4) := by show _ = _; unfold wat4; omega
    have hW4b : 0 ≤ wat4 zd 4 ∧ wat4 zd 4 ≤ 4294967295 := by unfold wat4; omega
    have lq : Later w1 (w1.alloc (.cells #[.int .u8 (zd[0]?.getD 0), .int .u8 (zd[1]?.getD 0), .int .u32 (wat4 zd 4), .slice a1 (zd.length - 8) c1] 154)) := (Below.refl _ _).alloc (Nat.le_refl _) _
    have l1 := Later.trans hb1 lq
    have r1 := (l1.block _ (Array.getElem?_eq_some_iff.1 R0.out).1).trans R0.out
    have hw1 := hb0.trans (l1.mono hb0.size)
    go_wp2_with fail
    rw [HW4.out]
    generalize w1.alloc (.cells #[.int .u8 (zd[0]?.getD 0), .int .u8 (zd[1]?.getD 0), .int .u32 (wat4 zd 4), .slice a1 (zd.length - 8) c1] 154) = W at *
    refine (ofNumber_any (zd[0]?.getD 0) (zd[1]?.getD 0) (wat4 zd 4) (wat zd 4) _ W).mono ?_
    rintro e w2 ⟨hb2, ⟨he, rfl⟩ | ⟨he, rfl⟩⟩
    · have HOE : Hid (oie zd = 0) := by show _ = _; unfold oie; rw [if_neg (fun h => h HF.out), if_pos he]
      clear he
      have rX := (Below.block hb2 _ (Array.getElem?_eq_some_iff.1 r1).1).trans r1
      have hwX := hw1.trans (hb2.mono hw1.size)
      have kX := block_cell rX
      have fX := block_frozen rX
      go_wp2_with fail
      generalize hV : (w2.setCell ⟨w.heap.size + 1, 0, none⟩ _).setCell ⟨w.heap.size + 1, 1, none⟩ _ = V
      have hV8 : V = putRow w2 (w.heap.size + 1) 0 [.int .u16 (wat zd 4), .int .u16 (wat zd 4)] := hV.symm
      have hbV : But (fun b => b = w.heap.size + 1) w2 V := by rw [hV8]; exact putRow_but (E := fun b => b = w.heap.size + 1) (n := w.heap.size + 1) rfl _ _ _ _ (But.refl _ _)
      have pV := putRow_all ([.int .u16 (wat zd 4), .int .u16 (wat zd 4)] : List Value) rX rfl
      rw [← hV8] at pV
      clear hV hV8 kX fX
      have PV := block_cell pV
      have hwV : Below w.heap.size w V := hwX.trans (hbV.below hwX.size (fun k hk e => by omega))
      exact bodyPost_ret (v := .tuple #[.agg #[.int .u16 (wat zd 4), .int .u16 (wat zd 4)], .int .i64 0]) (by simp [results, Tryz.results173, go_sem, PV]) rfl ⟨hwV, _, _, by rw [HOE.out], fun _ => ⟨rfl, rfl⟩⟩
    · have HOE : Hid (oie zd = 12) := by show _ = _; unfold oie; rw [if_neg (fun h => h HF.out), if_neg (by rw [he]; decide)]
      clear he
      have rX := (Below.block hb2 _ (Array.getElem?_eq_some_iff.1 r1).1).trans r1
      have hwX := hw1.trans (hb2.mono hw1.size)
      have kX := block_cell rX
      have fX := block_frozen rX
      go_wp2_with fail
      generalize hV : (w2.setCell ⟨w.heap.size + 1, 0, none⟩ _).setCell ⟨w.heap.size + 1, 1, none⟩ _ = V
      have hV8 : V = putRow w2 (w.heap.size + 1) 0 [.int .u16 0, .int .u16 0] := hV.symm
      have hbV : But (fun b => b = w.heap.size + 1) w2 V := by rw [hV8]; exact putRow_but (E := fun b => b = w.heap.size + 1) (n := w.heap.size + 1) rfl _ _ _ _ (But.refl _ _)
      have pV := putRow_all ([.int .u16 0, .int .u16 0] : List Value) rX rfl
      rw [← hV8] at pV
      clear hV hV8 kX fX
      have PV := block_cell pV
      have hwV : Below w.heap.size w V := hwX.trans (hbV.below hwX.size (fun k hk e => by omega))
      exact bodyPost_ret (v := .tuple #[.agg #[.int .u16 0, .int .u16 0], .int .i64 12]) (by simp [results, Tryz.results173, go_sem, PV]) rfl ⟨hwV, _, _, by rw [HOE.out], fun h => by rw [HOE.out] at h; exact absurd h (by decide)⟩

theorem look_none {z : Int} (hz : z ≠ 6 ∧ z ≠ 17 ∧ z ≠ 1 ∧ z ≠ 47) {w : World} {b : Nat} (hb : w.heap[b]? = some (.map rdE 4)) : (Instr.lookup 243 (.map (some b)) (.int .u8 z) true).run Tryz.prog w = .ok (.tuple #[.agg #[.nilFunc, .nilFunc], .bool false]) w :=
  run_findq Tryz.underlying243 Tryz.underlying5 hb z _ false (.inr ⟨by
    obtain ⟨h1, h2, h3, h4⟩ := hz
    have e1 : (z == 6) = false := by simp [h1]
    have e2 : (z == 17) = false := by simp [h2]
    have e3 : (z == 1) = false := by simp [h3]
    have e4 : (z == 47) = false := by simp [h4]
    simp [rdE, Instr.findNow, Instr.sameNow, e1, e2, e3, e4], by kernel_rfl, rfl⟩)
theorem run_store_nf (P : Program) (w : World) (a : Addr) (m : Mode) : (store a .nilFunc m).run P w = stored P w a .nilFunc m := run_store P w a _ m rfl

set_option maxHeartbeats 4000000 in
theorem of_other (pr : Int) (tos id ttl src dst : Int) (keep : Bool) (so : Value) (ad : Option Addr) (ld cd : Nat) (w : World)
    (hpr : pr ≠ 6 ∧ pr ≠ 17 ∧ pr ≠ 1 ∧ pr ≠ 47) :
    Calls Tryz.prog 79 #[.agg #[.int .u8 tos, .int .u16 id, .bool keep, .int .u8 ttl, .int .u8 pr, .int .u32 src, .int .u32 dst, so, .slice ad ld cd]] w fun e w' => Below w.heap.size w w' ∧ e = .returned (.tuple #[.agg #[.int .u8 0, .int .u32 0, .int .u32 0, .int .u16 0, .int .u16 0], .int .i64 12]) := by
  have hb0 : Below w.heap.size w ((w.alloc (.cells #[.int .u8 tos, .int .u16 id, .bool keep, .int .u8 ttl, .int .u8 pr, .int .u32 src, .int .u32 dst, so, .slice ad ld cd] 78)).alloc (.cells #[.int .u8 0, .int .u32 0, .int .u32 0, .int .u16 0, .int .u16 0] 69)) := ((Below.refl _ _).alloc (Nat.le_refl _) _).alloc (by simp) _
  have p0 : ((w.alloc (.cells #[.int .u8 tos, .int .u16 id, .bool keep, .int .u8 ttl, .int .u8 pr, .int .u32 src, .int .u32 dst, so, .slice ad ld cd] 78)).alloc (.cells #[.int .u8 0, .int .u32 0, .int .u32 0, .int .u16 0, .int .u16 0] 69)).heap[w.heap.size]? = some (.cells #[.int .u8 tos, .int .u16 id, .bool keep, .int .u8 ttl, .int .u8 pr, .int .u32 src, .int .u32 dst, so, .slice ad ld cd] 78) := (Below.heap_alloc _ _ _ (by simp)).trans (heap_alloc_new w _)
  have r0 := heap_alloc_new (w.alloc (.cells #[.int .u8 tos, .int .u16 id, .bool keep, .int .u8 ttl, .int .u8 pr, .int .u32 src, .int .u32 dst, so, .slice ad ld cd] 78)) (.cells #[.int .u8 0, .int .u32 0, .int .u32 0, .int .u16 0, .int .u16 0] 69)
  rw [World.size_alloc] at r0
  have hs0 : ((w.alloc (.cells #[.int .u8 tos, .int .u16 id, .bool keep, .int .u8 ttl, .int .u8 pr, .int .u32 src, .int .u32 dst, so, .slice ad ld cd] 78)).alloc (.cells #[.int .u8 0, .int .u32 0, .int .u32 0, .int .u16 0, .int .u16 0] 69)).heap.size = w.heap.size + 2 := by simp
  have HS0 := hide hs0
  have P0 := hide p0
  have R0 := hide r0
  clear r0 hs0 p0
  go_enter Tryz.func79, Tryz.ntmps79
  go_upto_region 1 with fail
  generalize (w.alloc (.cells #[.int .u8 tos, .int .u16 id, .bool keep, .int .u8 ttl, .int .u8 pr, .int .u32 src, .int .u32 dst, so, .slice ad ld cd] 78)).alloc (.cells #[.int .u8 0, .int .u32 0, .int .u32 0, .int .u16 0, .int .u16 0] 69) = w0 at *
  have hlt0 : w.heap.size + 1 < w0.heap.size := by have := HS0.out; omega
  have p0 := P0.out
  go_cut [4, 5] (fun q x wx => ∃ g, q = .pointer (some ⟨g, 0, none⟩) ∧ x = .bool false ∧ wx.heap[g]? = some (.cells #[.nilFunc, .nilFunc] 241 (0, 0)) ∧ Below w0.heap.size w0 wx)
  case first =>
    refine anyT_begin (R := But (fun b => w0.heap.size ≤ b)) 10 rfl (by kernel_rfl) ?_
    have hd : Later w0 w0.drew := Later.drew w0
    have pd := (hd.block w.heap.size (Array.getElem?_eq_some_iff.1 p0).1).trans p0
    have bd : Below w0.heap.size w0 w0.drew := hd
    generalize w0.drew = Wd at *
    have ha : ∀ v1, But (fun b => w0.heap.size ≤ b) Wd v1 → ∀ i, v1.cell? ⟨w.heap.size, i, none⟩ = #[Value.int .u8 tos, .int .u16 id, .bool keep, .int .u8 ttl, .int .u8 pr, .int .u32 src, .int .u32 dst, so, .slice ad ld cd][i]? := fun v1 h => block_cell ((h.block w.heap.size (Array.getElem?_eq_some_iff.1 pd).1 (by omega)).trans pd)
    have hz : w0.heap.size ≤ Wd.heap.size := bd.size
    refine anyT_val (But.pre _) 1 rfl (by kernel_rfl) (by kernel_rfl) (by kernel_rfl) (fun _ _ _ _ h => h) rfl ?_; apply Exists.intro; refine ⟨fun v1 hv1 => ?_, ?_⟩; (· (go_simp; rfl)); simp only [Act.put, List.setIfInBounds_toArray, List.set_cons_zero, List.set_cons_succ]
    refine anyT_val (But.pre _) 2 rfl (by kernel_rfl) (by kernel_rfl) (by kernel_rfl) (fun _ _ _ _ h => h) rfl ?_; apply Exists.intro; refine ⟨fun v1 hv1 => ?_, ?_⟩; (· (go_simp; rfl)); simp only [Act.put, List.setIfInBounds_toArray, List.set_cons_zero, List.set_cons_succ]
    refine anyT_two 0 7 rfl rfl (by kernel_rfl) rfl rfl ?_ ?_
    · skip
      refine wp_enter 126 #[] (by go_simp) ?_
      refine (readers_any Wd).mono ?_
      rintro e W3 ⟨m, rfl, hb3, hM3⟩
      have l3 : Later Wd W3 := hb3
      refine ⟨But.of l3, ?_⟩
      simp only [Act.put, List.setIfInBounds_toArray, List.set_cons_zero, List.set_cons_succ]
      have hlk := look_none hpr hM3
      refine anyT_two 3 7 rfl rfl (by kernel_rfl) rfl rfl ?_ ?_
      · unfold Oper.wp
        go_simp
        refine ⟨But.refl _ _, ?_⟩
        clear hlk
        refine anyT_val (But.pre _) 4 rfl (by kernel_rfl) (by kernel_rfl) (by kernel_rfl) (fun _ _ _ _ h => h) rfl ?_; apply Exists.intro; refine ⟨fun v1 hv1 => ?_, ?_⟩; (· (go_simp; rfl)); simp only [Act.put, List.setIfInBounds_toArray, List.set_cons_zero, List.set_cons_succ]
        refine anyT_val (But.pre _) 5 rfl (by kernel_rfl) (by kernel_rfl) (by kernel_rfl) (fun _ _ _ _ h => h) rfl ?_; apply Exists.intro; refine ⟨fun v1 hv1 => ?_, ?_⟩; (· (go_simp; rfl)); simp only [Act.put, List.setIfInBounds_toArray, List.set_cons_zero, List.set_cons_succ]
        refine anyT_val (But.pre _) 6 rfl (by kernel_rfl) (by kernel_rfl) (by kernel_rfl) (fun _ _ _ _ h => h) rfl ?_; apply Exists.intro; refine ⟨fun v1 hv1 => ?_, ?_⟩; (· (go_simp; rfl)); simp only [Act.put, List.setIfInBounds_toArray, List.set_cons_zero, List.set_cons_succ]
        refine anyT_one 7 rfl (by kernel_rfl) rfl ?_
        unfold Oper.wp
        go_simp
        have l4 : Later W3 (W3.alloc (.cells #[.nilFunc, .nilFunc] 241)) := (Below.refl _ _).alloc (Nat.le_refl _) _
        have g4 := heap_alloc_new W3 (.cells #[.nilFunc, .nilFunc] 241)
        have b4 : Below w0.heap.size w0 (W3.alloc (.cells #[.nilFunc, .nilFunc] 241)) := (bd.trans (l3.mono hz)).trans (l4.mono (Nat.le_trans hz l3.size))
        have hge : w0.heap.size ≤ W3.heap.size := Nat.le_trans hz l3.size
        refine ⟨But.of l4, ?_⟩
        generalize W3.alloc (.cells #[.nilFunc, .nilFunc] 241) = W4 at *
        generalize W3.heap.size = g at *
        have kg := block_cell g4
        have fg := block_frozen g4
        have hsf := run_store_nf Tryz.prog
        refine anyT_one 8 rfl (by kernel_rfl) rfl ?_
        unfold Oper.wp
        go_simp
        generalize hV : (W4.setCell ⟨g, 0, none⟩ _).setCell ⟨g, 1, none⟩ _ = V
        have hV8 : V = putRow W4 (g) 0 [.nilFunc, .nilFunc] := hV.symm
        have hbV : But (fun b => w0.heap.size ≤ b) W4 V := by rw [hV8]; exact putRow_but (E := fun b => w0.heap.size ≤ b) (n := g) hge _ _ _ _ (But.refl _ _)
        have pV := putRow_all [Value.nilFunc, .nilFunc] g4 rfl
        rw [← hV8] at pV
        clear hV hV8 kg fg hsf
        refine ⟨hbV, ?_⟩
        refine anyT_one 9 rfl (by kernel_rfl) rfl ?_
        unfold Oper.wp
        go_simp
        refine ⟨But.refl _ _, ?_⟩
        refine anyT_done (by kernel_rfl) ?_
        have hbl : Below w0.heap.size w0 V := b4.trans (hbV.below b4.size (fun k hk e => by omega))
        clear ha
        go_wp2_with fail
        go_meet
        exact ⟨_, rfl, rfl, pV, hbl⟩
      · unfold Oper.wp
        go_simp
        have l4 : Later W3 (W3.alloc (.cells #[.nilFunc, .nilFunc] 241)) := (Below.refl _ _).alloc (Nat.le_refl _) _
        have g4 := heap_alloc_new W3 (.cells #[.nilFunc, .nilFunc] 241)
        have b4 : Below w0.heap.size w0 (W3.alloc (.cells #[.nilFunc, .nilFunc] 241)) := (bd.trans (l3.mono hz)).trans (l4.mono (Nat.le_trans hz l3.size))
        have hge : w0.heap.size ≤ W3.heap.size := Nat.le_trans hz l3.size
        have hM4 := (l4.block m (Array.getElem?_eq_some_iff.1 hM3).1).trans hM3
        refine ⟨But.of l4, ?_⟩
        clear hlk
        generalize W3.alloc (.cells #[.nilFunc, .nilFunc] 241) = W4 at *
        generalize W3.heap.size = g at *
        have hlk := look_none hpr hM4
        refine anyT_one 3 rfl (by kernel_rfl) rfl ?_
        unfold Oper.wp
        go_simp
        refine ⟨But.refl _ _, ?_⟩
        clear hlk
        refine anyT_val (But.pre _) 4 rfl (by kernel_rfl) (by kernel_rfl) (by kernel_rfl) (fun _ _ _ _ h => h) rfl ?_; apply Exists.intro; refine ⟨fun v1 hv1 => ?_, ?_⟩; (· (go_simp; rfl)); simp only [Act.put, List.setIfInBounds_toArray, List.set_cons_zero, List.set_cons_succ]
        refine anyT_val (But.pre _) 5 rfl (by kernel_rfl) (by kernel_rfl) (by kernel_rfl) (fun _ _ _ _ h => h) rfl ?_; apply Exists.intro; refine ⟨fun v1 hv1 => ?_, ?_⟩; (· (go_simp; rfl)); simp only [Act.put, List.setIfInBounds_toArray, List.set_cons_zero, List.set_cons_succ]
        refine anyT_val (But.pre _) 6 rfl (by kernel_rfl) (by kernel_rfl) (by kernel_rfl) (fun _ _ _ _ h => h) rfl ?_; apply Exists.intro; refine ⟨fun v1 hv1 => ?_, ?_⟩; (· (go_simp; rfl)); simp only [Act.put, List.setIfInBounds_toArray, List.set_cons_zero, List.set_cons_succ]
        have kg := block_cell g4
        have fg := block_frozen g4
        have hsf := run_store_nf Tryz.prog
        refine anyT_one 8 rfl (by kernel_rfl) rfl ?_
        unfold Oper.wp
        go_simp
        generalize hV : (W4.setCell ⟨g, 0, none⟩ _).setCell ⟨g, 1, none⟩ _ = V
        have hV8 : V = putRow W4 (g) 0 [.nilFunc, .nilFunc] := hV.symm
        have hbV : But (fun b => w0.heap.size ≤ b) W4 V := by rw [hV8]; exact putRow_but (E := fun b => w0.heap.size ≤ b) (n := g) hge _ _ _ _ (But.refl _ _)
        have pV := putRow_all [Value.nilFunc, .nilFunc] g4 rfl
        rw [← hV8] at pV
        clear hV hV8 kg fg hsf
        refine ⟨hbV, ?_⟩
        refine anyT_one 9 rfl (by kernel_rfl) rfl ?_
        unfold Oper.wp
        go_simp
        refine ⟨But.refl _ _, ?_⟩
        refine anyT_done (by kernel_rfl) ?_
        have hbl : Below w0.heap.size w0 V := b4.trans (hbV.below b4.size (fun k hk e => by omega))
        clear ha
        go_wp2_with fail
        go_meet
        exact ⟨_, rfl, rfl, pV, hbl⟩
    · unfold Oper.wp
      go_simp
      have l4 : Later Wd (Wd.alloc (.cells #[.nilFunc, .nilFunc] 241)) := (Below.refl _ _).alloc (Nat.le_refl _) _
      have g4 := heap_alloc_new Wd (.cells #[.nilFunc, .nilFunc] 241)
      have b4 : Below w0.heap.size w0 (Wd.alloc (.cells #[.nilFunc, .nilFunc] 241)) := bd.trans (l4.mono hz)
      refine ⟨But.of l4, ?_⟩
      have hge : w0.heap.size ≤ Wd.heap.size := hz
      generalize Wd.alloc (.cells #[.nilFunc, .nilFunc] 241) = W4 at *
      generalize Wd.heap.size = g at *
      refine anyT_one 0 rfl (by kernel_rfl) rfl ?_
      refine wp_enter 126 #[] (by go_simp) ?_
      refine (readers_any W4).mono ?_
      rintro e W5 ⟨m, rfl, hb5, hM5⟩
      have l5 : Later W4 W5 := hb5
      have g5 := (l5.block g (Array.getElem?_eq_some_iff.1 g4).1).trans g4
      have b5 : Below w0.heap.size w0 W5 := b4.trans (l5.mono b4.size)
      refine ⟨But.of l5, ?_⟩
      simp only [Act.put, List.setIfInBounds_toArray, List.set_cons_zero, List.set_cons_succ]
      have hlk := look_none hpr hM5
      refine anyT_one 3 rfl (by kernel_rfl) rfl ?_
      unfold Oper.wp
      go_simp
      refine ⟨But.refl _ _, ?_⟩
      clear hlk
      refine anyT_val (But.pre _) 4 rfl (by kernel_rfl) (by kernel_rfl) (by kernel_rfl) (fun _ _ _ _ h => h) rfl ?_; apply Exists.intro; refine ⟨fun v1 hv1 => ?_, ?_⟩; (· (go_simp; rfl)); simp only [Act.put, List.setIfInBounds_toArray, List.set_cons_zero, List.set_cons_succ]
      refine anyT_val (But.pre _) 5 rfl (by kernel_rfl) (by kernel_rfl) (by kernel_rfl) (fun _ _ _ _ h => h) rfl ?_; apply Exists.intro; refine ⟨fun v1 hv1 => ?_, ?_⟩; (· (go_simp; rfl)); simp only [Act.put, List.setIfInBounds_toArray, List.set_cons_zero, List.set_cons_succ]
      refine anyT_val (But.pre _) 6 rfl (by kernel_rfl) (by kernel_rfl) (by kernel_rfl) (fun _ _ _ _ h => h) rfl ?_; apply Exists.intro; refine ⟨fun v1 hv1 => ?_, ?_⟩; (· (go_simp; rfl)); simp only [Act.put, List.setIfInBounds_toArray, List.set_cons_zero, List.set_cons_succ]
      have kg := block_cell g5
      have fg := block_frozen g5
      have hsf := run_store_nf Tryz.prog
      refine anyT_one 8 rfl (by kernel_rfl) rfl ?_
      unfold Oper.wp
      go_simp
      generalize hV : (W5.setCell ⟨g, 0, none⟩ _).setCell ⟨g, 1, none⟩ _ = V
      have hV8 : V = putRow W5 (g) 0 [.nilFunc, .nilFunc] := hV.symm
      have hbV : But (fun b => w0.heap.size ≤ b) W5 V := by rw [hV8]; exact putRow_but (E := fun b => w0.heap.size ≤ b) (n := g) hge _ _ _ _ (But.refl _ _)
      have pV := putRow_all [Value.nilFunc, .nilFunc] g5 rfl
      rw [← hV8] at pV
      clear hV hV8 kg fg hsf
      refine ⟨hbV, ?_⟩
      refine anyT_one 9 rfl (by kernel_rfl) rfl ?_
      unfold Oper.wp
      go_simp
      refine ⟨But.refl _ _, ?_⟩
      refine anyT_done (by kernel_rfl) ?_
      have hbl : Below w0.heap.size w0 V := b5.trans (hbV.below b5.size (fun k hk e => by omega))
      clear ha
      go_wp2_with fail
      go_meet
      exact ⟨_, rfl, rfl, pV, hbl⟩
  case rest =>
    obtain ⟨g, rfl, rfl, hg, hbc⟩ := hcut
    have rX := (hbc.block _ (Array.getElem?_eq_some_iff.1 R0.out).1).trans R0.out
    have hwX := hb0.trans (hbc.mono hb0.size)
    have kX := block_cell rX
    have fX := block_frozen rX
    go_wp2_with fail
    generalize hV : ((((wc.setCell ⟨w.heap.size + 1, 0, none⟩ _).setCell ⟨w.heap.size + 1, 1, none⟩ _).setCell ⟨w.heap.size + 1, 2, none⟩ _).setCell ⟨w.heap.size + 1, 3, none⟩ _).setCell ⟨w.heap.size + 1, 4, none⟩ _ = V
    have hV8 : V = putRow wc (w.heap.size + 1) 0 [.int .u8 0, .int .u32 0, .int .u32 0, .int .u16 0, .int .u16 0] := hV.symm
    have hbV : But (fun b => b = w.heap.size + 1) wc V := by rw [hV8]; exact putRow_but (E := fun b => b = w.heap.size + 1) (n := w.heap.size + 1) rfl _ _ _ _ (But.refl _ _)
    have pV := putRow_all ([.int .u8 0, .int .u32 0, .int .u32 0, .int .u16 0, .int .u16 0] : List Value) rX rfl
    rw [← hV8] at pV
    clear hV hV8 kX fX
    have PV := block_cell pV
    have hwV : Below w.heap.size w V := hwX.trans (hbV.below hwX.size (fun k hk e => by omega))
    exact bodyPost_ret (v := .tuple #[.agg #[.int .u8 0, .int .u32 0, .int .u32 0, .int .u16 0, .int .u16 0], .int .i64 12]) (by simp [results, Tryz.results79, go_sem, PV]) rfl ⟨hwV, rfl⟩
end Go.Proofs.YtohflohdbkamnaaGreatDoor

/- Package segs: the document's answer for a packet's datagram. -/
namespace Go.Proofs.YtohflohdbkamnaaGreatDoor
open Go.RowKit Go.Shelf
set_option maxRecDepth 100000
set_option linter.unusedVariables false
set_option linter.unusedSimpArgs false

end Go.Proofs.YtohflohdbkamnaaGreatDoor

/- The document's options of a header's bytes. -/
namespace Go.Proofs.YtohflohdbkamnaaGreatDoor
open Go.RowKit Go.Shelf
set_option maxRecDepth 100000
set_option linter.unusedVariables false
set_option linter.unusedSimpArgs false

end Go.Proofs.YtohflohdbkamnaaGreatDoor

/- The document's answers for four bytes got, and for words put. -/
namespace Go.Proofs.YtohflohdbkamnaaGreatDoor
open Go.RowKit Go.Shelf
set_option maxRecDepth 100000

end Go.Proofs.YtohflohdbkamnaaGreatDoor

/- Package segs: which option tells edges. -/
namespace Go.Proofs.YtohflohdbkamnaaGreatDoor
open Go.RowKit Go.Shelf
set_option maxRecDepth 100000
set_option linter.unusedVariables false
set_option linter.unusedSimpArgs false

end Go.Proofs.YtohflohdbkamnaaGreatDoor

/- Package segs: the edges that a segment tells. -/
namespace Go.Proofs.YtohflohdbkamnaaGreatDoor
open Go.RowKit Go.Shelf
set_option maxRecDepth 100000
set_option linter.unusedVariables false
set_option linter.unusedSimpArgs false

/-- A slice of numbers of 32 bits in a block of one's own, or none. -/
def Ow4 (base : Nat) (W : World) (v : Value) (ns : List Int) : Prop :=
  (v = .slice none 0 0 ∧ ns = []) ∨ ∃ g, v = .slice (some ⟨g, 0, none⟩) ns.length ns.length ∧ base ≤ g ∧ W.heap[g]? = some (.cells (ns.map (Value.int .u32)).toArray 25 (0, 0))
theorem Ow4.later {base : Nat} {A B : World} {v : Value} {ns : List Int} (h : Ow4 base A v ns) (l : Later A B) : Ow4 base B v ns := by
  rcases h with h | ⟨g, h1, h2, h3⟩
  · exact .inl h
  · exact .inr ⟨g, h1, h2, later_keep l h3⟩
theorem Ow4.mono {base base' : Nat} {A : World} {v : Value} {ns : List Int} (h : Ow4 base A v ns) (hb : base' ≤ base) : Ow4 base' A v ns := by
  rcases h with h | ⟨g, h1, h2, h3⟩
  · exact .inl h
  · exact .inr ⟨g, h1, by omega, h3⟩
theorem Ow4.slice {base : Nat} {A : World} {v : Value} {ns : List Int} (h : Ow4 base A v ns) : ∃ a, v = .slice a ns.length ns.length := by
  rcases h with ⟨rfl, rfl⟩ | ⟨g, rfl, _⟩
  · exact ⟨none, rfl⟩
  · exact ⟨_, rfl⟩
theorem Ow4.cell {base : Nat} {A : World} {a : Option Addr} {l c : Nat} {ns : List Int} (h : Ow4 base A (.slice a l c) ns) (hne : 0 < ns.length) : ∃ g, a = some ⟨g, 0, none⟩ ∧ l = ns.length ∧ c = ns.length ∧ base ≤ g ∧ ∀ j, j < ns.length → A.cell? ⟨g, j, none⟩ = some (.int .u32 (ns[j]?.getD 0)) := by
  rcases h with ⟨_, rfl⟩ | ⟨g, e, h2, h3⟩
  · simp at hne
  · cases e
    refine ⟨g, rfl, rfl, rfl, h2, fun j hj => ?_⟩
    rw [block_cell h3 j]
    simp [hj]

end Go.Proofs.YtohflohdbkamnaaGreatDoor

/- The document's answer for a packet's segment. -/
namespace Go.Proofs.YtohflohdbkamnaaGreatDoor
open Go.RowKit Go.Shelf
set_option maxRecDepth 100000
set_option linter.unusedVariables false
set_option linter.unusedSimpArgs false

end Go.Proofs.YtohflohdbkamnaaGreatDoor
