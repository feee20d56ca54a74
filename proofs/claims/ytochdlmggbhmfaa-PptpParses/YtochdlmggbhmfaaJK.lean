/- The document's answer for what a message's bytes say. -/
import Derived.Test.YtochdlmggbhmfaaJJ
namespace Go.Proofs.Ytochdlmggbhmfaa
open Go.RowKit Go.Shelf
set_option maxRecDepth 100000
set_option linter.unusedVariables false
set_option linter.unusedSimpArgs false

set_option maxHeartbeats 8000000 in
theorem rparse15_any {n₀ : Nat} (sv : Value) (zs : List Int) (hB : Mt.By zs) (hl : zs.length ≤ 140737488355328) (w : World) (hn : n₀ ≤ w.heap.size) (hI : Rd n₀ w sv zs) :
    Calls Try.prog 10 #[sv] w fun e w' => e = .returned (.tuple #[msg (pmT zs) (getAt2 zs (lyC zs)) (getAt2 zs (lyP zs)) (pmR zs), .int .i64 (lye zs)]) ∧ Later w w' := by
  obtain ⟨a, cap, rfl, hl1, hm1⟩ := hI.slice
  have hb0 : Below w.heap.size w (w.alloc (.cells #[.int .i64 0, .int .u16 0, .int .u16 0, .int .u8 0] 29)) := (Below.refl _ _).alloc (Nat.le_refl _) _
  have r0 := heap_alloc_new w (.cells #[.int .i64 0, .int .u16 0, .int .u16 0, .int .u8 0] 29)
  by_cases c1 : zs.length < 12
  · have t1 : (zs.length : Int) < 12 := by omega
    have HF : Hid (lye zs = 3) := by show _ = _; unfold lye; rw [if_pos c1]
    go_enter Try.func10, Try.ntmps10
    go_upto_region 2 with fail
    generalize w.alloc _ = W0 at *
    have CA := block_cell r0
    have FA := block_frozen r0
    go_wp2_with fail
    generalize hV : ((((W0.setCell ⟨w.heap.size, 0, none⟩ _).setCell ⟨w.heap.size, 1, none⟩ _).setCell ⟨w.heap.size, 2, none⟩ _).setCell ⟨w.heap.size, 3, none⟩ _) = V8; have hV9 : V8 = putRow W0 w.heap.size 0 [.int .i64 0, .int .u16 0, .int .u16 0, .int .u8 0] := hV.symm; have hb8 : But (fun b => b = w.heap.size) W0 V8 := by { rw [hV9]; exact putRow_but (E := fun b => b = w.heap.size) (n := w.heap.size) rfl _ _ _ _ (But.refl _ _) }; have p8 := putRow_all [.int .i64 0, .int .u16 0, .int .u16 0, .int .u8 0] r0 rfl; rw [← hV9] at p8; clear hV hV9; have P8 := block_cell p8; have hw8 : Below w.heap.size w V8 := (hb0).trans (hb8.below (hb0).size (fun k h e => by omega)); exact bodyPost_ret (v := .tuple #[msg 0 0 0 0, .int .i64 3]) (by simp [results, Try.results10, go_sem, P8]) rfl ⟨by rw [msg_no HF.out (by decide), HF.out], hw8⟩
  have t1 : ¬ (zs.length : Int) < 12 := by omega
  have R0 := hide r0
  clear r0
  have HE4 := hide (lye_head4 hB (by omega))
  have HE0 := hide (lye_head0 hB (by omega))
  have B0 := getAt2_bd hB 0
  have B8 := getAt2_bd hB 8
  have i8 : (-9223372036854775808 : Int) ≤ 8 ∧ (8 : Int) ≤ 9223372036854775807 := by omega
  go_enter Try.func10, Try.ntmps10
  go_upto_region 3 with fail
  generalize w.alloc _ = W0 at *
  have hI0 : Rd n₀ W0 (.slice a zs.length cap) zs := hI.below (hb0.mono hn)
  have L0 : Later W0 W0 := Later.refl _
  have HG0 := hide (fun v (h : Rd n₀ v (.slice a zs.length cap) zs) => rget16_at _ zs hB 0 (by omega) hl v h)
  have HG2 := hide (fun v (h : Rd n₀ v (.slice a zs.length cap) zs) => rget16_at _ zs hB 2 (by omega) hl v h)
  have HG4 := hide (fun v (h : Rd n₀ v (.slice a zs.length cap) zs) => rget32_at _ zs hB 4 (by omega) hl v h)
  have HG10 := hide (fun v (h : Rd n₀ v (.slice a zs.length cap) zs) => rget16_at _ zs hB 10 (by omega) hl v h)
  have HG8 := hide (fun v (h : Rd n₀ v (.slice a zs.length cap) zs) => rget16_at _ zs hB 8 (by omega) hl v h)
  have HMT : Hid (lye zs = 0 → pmT zs = getAt2 zs 8 ∧ pmR zs = (if getAt2 zs 8 = 8 then zs[16]?.getD 0 else 0) ∧ lyC zs = lca (getAt2 zs 8) ∧ lyP zs = lpe (getAt2 zs 8)) := fun h => by
    refine ⟨pmT_yes h, ?_, lyC_yes h, lyP_yes h⟩
    unfold pmR
    by_cases h8 : getAt2 zs 8 = 8
    · rw [if_pos ⟨h, h8⟩, if_pos h8]
    · rw [if_neg (fun e => h8 e.2), if_neg h8]
  obtain ⟨g0, X0⟩ : ∃ g, Hid (getAt2 zs 0 = g) := ⟨_, rfl⟩
  obtain ⟨g2, X2⟩ : ∃ g, Hid (getAt2 zs 2 = g) := ⟨_, rfl⟩
  obtain ⟨g4, X4⟩ : ∃ g, Hid (getAt4 zs 4 = g) := ⟨_, rfl⟩
  obtain ⟨g10, X10⟩ : ∃ g, Hid (getAt2 zs 10 = g) := ⟨_, rfl⟩
  obtain ⟨t, X8⟩ : ∃ g, Hid (getAt2 zs 8 = g) := ⟨_, rfl⟩
  rw [X0.out] at HG0 B0
  rw [X2.out] at HG2
  rw [X4.out] at HG4
  rw [X10.out] at HG10
  rw [X8.out] at HG8 B8 HMT
  rw [X0.out, X2.out, X4.out, X10.out] at HE4 HE0
  rw [X8.out] at HE0
  have HW0 : Hid (wrap64 g0 = g0) := by show _ = _; unfold wrap64; omega
  have HW8 : Hid (wrap64 t = t) := by show _ = _; unfold wrap64; omega
  have HB0 := hide B0
  have HB8 := hide B8
  clear B0 B8 i8
  go_wp2_with fail
  refine (HG0.out W0 hI0).mono ?_
  rintro e w1 ⟨rfl, q1, hq1⟩
  have hI1 : Rd n₀ w1 (.slice a zs.length cap) zs := by rw [hq1]; exact hI0.drew q1
  have L1 : Later W0 w1 := by rw [hq1]; exact below_draw (Below.refl _ _) q1
  clear hq1
  by_cases k0 : g0 = (zs.length : Int)
  case neg =>
    have n0 : (wrap64 g0 != (zs.length : Int)) = true := by rw [HW0.out]; simp [k0]
    have HF : Hid (lye zs = 4) := HE4.out (fun e => k0 e.1)
    have hw1 : Below w.heap.size w w1 := Later.below hb0 (Nat.le_refl _) L1
    have r1 := (L1.block w.heap.size (Array.getElem?_eq_some_iff.1 R0.out).1).trans R0.out
    have CA := block_cell r1
    have FA := block_frozen r1
    clear k0
    go_wp2_with fail
    generalize hV : ((((w1.setCell ⟨w.heap.size, 0, none⟩ _).setCell ⟨w.heap.size, 1, none⟩ _).setCell ⟨w.heap.size, 2, none⟩ _).setCell ⟨w.heap.size, 3, none⟩ _) = V8; have hV9 : V8 = putRow w1 w.heap.size 0 [.int .i64 0, .int .u16 0, .int .u16 0, .int .u8 0] := hV.symm; have hb8 : But (fun b => b = w.heap.size) w1 V8 := by { rw [hV9]; exact putRow_but (E := fun b => b = w.heap.size) (n := w.heap.size) rfl _ _ _ _ (But.refl _ _) }; have p8 := putRow_all [.int .i64 0, .int .u16 0, .int .u16 0, .int .u8 0] r1 rfl; rw [← hV9] at p8; clear hV hV9; have P8 := block_cell p8; have hw8 : Below w.heap.size w V8 := (hw1).trans (hb8.below (hw1).size (fun k h e => by omega)); exact bodyPost_ret (v := .tuple #[msg 0 0 0 0, .int .i64 4]) (by simp [results, Try.results10, go_sem, P8]) rfl ⟨by rw [msg_no HF.out (by decide), HF.out], hw8⟩
  have n0 : (wrap64 g0 != (zs.length : Int)) = false := by rw [HW0.out]; simp [k0]
  have K0 := hide k0
  clear k0
  go_wp2_with fail
  refine (HG2.out w1 hI1).mono ?_
  rintro e w2 ⟨rfl, q2, hq2⟩
  have hI2 : Rd n₀ w2 (.slice a zs.length cap) zs := by rw [hq2]; exact hI1.drew q2
  have L2 : Later W0 w2 := by rw [hq2]; exact L1.trans (below_draw (Below.refl _ _) q2)
  clear hq2 L1 hI1 n0
  by_cases k2 : g2 = 1
  case neg =>
    have n2 : (g2 != 1) = true := by simp [k2]
    have HF : Hid (lye zs = 4) := HE4.out (fun e => k2 e.2.1)
    have hw1 : Below w.heap.size w w2 := Later.below hb0 (Nat.le_refl _) L2
    have r1 := (L2.block w.heap.size (Array.getElem?_eq_some_iff.1 R0.out).1).trans R0.out
    have CA := block_cell r1
    have FA := block_frozen r1
    clear k2
    go_wp2_with fail
    generalize hV : ((((w2.setCell ⟨w.heap.size, 0, none⟩ _).setCell ⟨w.heap.size, 1, none⟩ _).setCell ⟨w.heap.size, 2, none⟩ _).setCell ⟨w.heap.size, 3, none⟩ _) = V8; have hV9 : V8 = putRow w2 w.heap.size 0 [.int .i64 0, .int .u16 0, .int .u16 0, .int .u8 0] := hV.symm; have hb8 : But (fun b => b = w.heap.size) w2 V8 := by { rw [hV9]; exact putRow_but (E := fun b => b = w.heap.size) (n := w.heap.size) rfl _ _ _ _ (But.refl _ _) }; have p8 := putRow_all [.int .i64 0, .int .u16 0, .int .u16 0, .int .u8 0] r1 rfl; rw [← hV9] at p8; clear hV hV9; have P8 := block_cell p8; have hw8 : Below w.heap.size w V8 := (hw1).trans (hb8.below (hw1).size (fun k h e => by omega)); exact bodyPost_ret (v := .tuple #[msg 0 0 0 0, .int .i64 4]) (by simp [results, Try.results10, go_sem, P8]) rfl ⟨by rw [msg_no HF.out (by decide), HF.out], hw8⟩
  have n2 : (g2 != 1) = false := by simp [k2]
  have K2 := hide k2
  clear k2
  go_wp2_with fail
  refine (HG4.out w2 hI2).mono ?_
  rintro e w3 ⟨rfl, q3, hq3⟩
  have hI3 : Rd n₀ w3 (.slice a zs.length cap) zs := by rw [hq3]; exact hI2.drew q3
  have L3 : Later W0 w3 := by rw [hq3]; exact L2.trans (below_draw (Below.refl _ _) q3)
  clear hq3 L2 hI2 n2
  by_cases k4 : g4 = 439041101
  case neg =>
    have n4 : (g4 != 439041101) = true := by simp [k4]
    have HF : Hid (lye zs = 4) := HE4.out (fun e => k4 e.2.2.1)
    have hw1 : Below w.heap.size w w3 := Later.below hb0 (Nat.le_refl _) L3
    have r1 := (L3.block w.heap.size (Array.getElem?_eq_some_iff.1 R0.out).1).trans R0.out
    have CA := block_cell r1
    have FA := block_frozen r1
    clear k4
    go_wp2_with fail
    generalize hV : ((((w3.setCell ⟨w.heap.size, 0, none⟩ _).setCell ⟨w.heap.size, 1, none⟩ _).setCell ⟨w.heap.size, 2, none⟩ _).setCell ⟨w.heap.size, 3, none⟩ _) = V8; have hV9 : V8 = putRow w3 w.heap.size 0 [.int .i64 0, .int .u16 0, .int .u16 0, .int .u8 0] := hV.symm; have hb8 : But (fun b => b = w.heap.size) w3 V8 := by { rw [hV9]; exact putRow_but (E := fun b => b = w.heap.size) (n := w.heap.size) rfl _ _ _ _ (But.refl _ _) }; have p8 := putRow_all [.int .i64 0, .int .u16 0, .int .u16 0, .int .u8 0] r1 rfl; rw [← hV9] at p8; clear hV hV9; have P8 := block_cell p8; have hw8 : Below w.heap.size w V8 := (hw1).trans (hb8.below (hw1).size (fun k h e => by omega)); exact bodyPost_ret (v := .tuple #[msg 0 0 0 0, .int .i64 4]) (by simp [results, Try.results10, go_sem, P8]) rfl ⟨by rw [msg_no HF.out (by decide), HF.out], hw8⟩
  have n4 : (g4 != 439041101) = false := by simp [k4]
  have K4 := hide k4
  clear k4
  go_wp2_with fail
  refine (HG10.out w3 hI3).mono ?_
  rintro e w4 ⟨rfl, q4, hq4⟩
  have hI4 : Rd n₀ w4 (.slice a zs.length cap) zs := by rw [hq4]; exact hI3.drew q4
  have L4 : Later W0 w4 := by rw [hq4]; exact L3.trans (below_draw (Below.refl _ _) q4)
  clear hq4 L3 hI3 n4
  by_cases k10 : g10 = 0
  case neg =>
    have n10 : (g10 != 0) = true := by simp [k10]
    have HF : Hid (lye zs = 4) := HE4.out (fun e => k10 e.2.2.2)
    have hw1 : Below w.heap.size w w4 := Later.below hb0 (Nat.le_refl _) L4
    have r1 := (L4.block w.heap.size (Array.getElem?_eq_some_iff.1 R0.out).1).trans R0.out
    have CA := block_cell r1
    have FA := block_frozen r1
    clear k10
    go_wp2_with fail
    generalize hV : ((((w4.setCell ⟨w.heap.size, 0, none⟩ _).setCell ⟨w.heap.size, 1, none⟩ _).setCell ⟨w.heap.size, 2, none⟩ _).setCell ⟨w.heap.size, 3, none⟩ _) = V8; have hV9 : V8 = putRow w4 w.heap.size 0 [.int .i64 0, .int .u16 0, .int .u16 0, .int .u8 0] := hV.symm; have hb8 : But (fun b => b = w.heap.size) w4 V8 := by { rw [hV9]; exact putRow_but (E := fun b => b = w.heap.size) (n := w.heap.size) rfl _ _ _ _ (But.refl _ _) }; have p8 := putRow_all [.int .i64 0, .int .u16 0, .int .u16 0, .int .u8 0] r1 rfl; rw [← hV9] at p8; clear hV hV9; have P8 := block_cell p8; have hw8 : Below w.heap.size w V8 := (hw1).trans (hb8.below (hw1).size (fun k h e => by omega)); exact bodyPost_ret (v := .tuple #[msg 0 0 0 0, .int .i64 4]) (by simp [results, Try.results10, go_sem, P8]) rfl ⟨by rw [msg_no HF.out (by decide), HF.out], hw8⟩
  have n10 : (g10 != 0) = false := by simp [k10]
  have HF0 := hide (HE0.out ⟨K0.out, K2.out, K4.out, k10⟩)
  clear k10 K0 K2 K4 HE0 HE4 X0 X2 X4 X10 HG0 HG2 HG4 HG10
  go_wp2_with fail
  refine (HG8.out w4 hI4).mono ?_
  rintro e w5 ⟨rfl, q5, hq5⟩
  have hI5 : Rd n₀ w5 (.slice a zs.length cap) zs := by rw [hq5]; exact hI4.drew q5
  have L5 : Later W0 w5 := by rw [hq5]; exact L4.trans (below_draw (Below.refl _ _) q5)
  clear hq5 L4 hI4 n10
  have hrB := heap_alloc_new w5 (.cells #[.int .i64 (wrap64 t), .int .u16 0, .int .u16 0, .int .u8 0] 29)
  have L6 : Later W0 (w5.alloc (.cells #[.int .i64 (wrap64 t), .int .u16 0, .int .u16 0, .int .u8 0] 29)) := L5.trans (later_alloc _ _)
  have hI6 := hI5.below (Below.mono (later_alloc w5 (.cells #[.int .i64 (wrap64 t), .int .u16 0, .int .u16 0, .int .u8 0] 29)) (Nat.le_trans (Nat.le_trans hn hb0.size) L5.size))
  go_upto_region 6 with fail
  generalize w5.alloc _ = w6 at *
  rw [HW8.out] at hrB ⊢
  have r6 := (L6.block w.heap.size (Array.getElem?_eq_some_iff.1 R0.out).1).trans R0.out
  have hmb : w.heap.size < w5.heap.size := (Array.getElem?_eq_some_iff.1 ((L5.block w.heap.size (Array.getElem?_eq_some_iff.1 R0.out).1).trans R0.out)).1
  have hw6 : Below w.heap.size w w6 := Later.below hb0 (Nat.le_refl _) L6
  generalize w5.heap.size = mb at *
  have CB := block_cell hrB
  have FB := block_frozen hrB
  have CA := block_cell r6
  have FA := block_frozen r6
  have RB6 := hide hrB
  have RA6 := hide r6
  clear hrB r6 L5 hI5 L6 hI0 L0 HG8 R0 HW8 HW0 HB0
  have hz := lsz_zero t
  cases hk : lkn t with
  | false =>
    have HF : Hid (lye zs = 12) := by show _ = _; rw [HF0.out, if_pos hk]
    rw [hk] at hz
    simp only [Bool.not_false] at hz
    clear hk
    go_wp2_with fail
    refine (rsize15_any t w6).mono ?_
    rintro e w7 ⟨rfl, rfl⟩
    go_wp2_with fail
    generalize hV : ((((w7.setCell ⟨w.heap.size, 0, none⟩ _).setCell ⟨w.heap.size, 1, none⟩ _).setCell ⟨w.heap.size, 2, none⟩ _).setCell ⟨w.heap.size, 3, none⟩ _) = V8; have hV9 : V8 = putRow w7 w.heap.size 0 [.int .i64 0, .int .u16 0, .int .u16 0, .int .u8 0] := hV.symm; have hb8 : But (fun b => b = w.heap.size) w7 V8 := by { rw [hV9]; exact putRow_but (E := fun b => b = w.heap.size) (n := w.heap.size) rfl _ _ _ _ (But.refl _ _) }; have p8 := putRow_all [.int .i64 0, .int .u16 0, .int .u16 0, .int .u8 0] RA6.out rfl; rw [← hV9] at p8; clear hV hV9; have P8 := block_cell p8; have hw8 : Below w.heap.size w V8 := (hw6).trans (hb8.below (hw6).size (fun k h e => by omega)); exact bodyPost_ret (v := .tuple #[msg 0 0 0 0, .int .i64 12]) (by simp [results, Try.results10, go_sem, P8]) rfl ⟨by rw [msg_no HF.out (by decide), HF.out], hw8⟩
  | true =>
    rw [hk] at hz
    simp only [Bool.not_true] at hz
    have HK := hide hk
    clear hk
    go_wp2_with fail
    refine (rsize15_any t w6).mono ?_
    rintro e w7 ⟨rfl, rfl⟩
    go_wp2_with fail
    refine (rsize15_any t w7).mono ?_
    rintro e w6 ⟨rfl, rfl⟩
    by_cases c5 : (zs.length : Int) = lsz t
    case neg =>
      have HF : Hid (lye zs = 4) := by show _ = _; rw [HF0.out, if_neg (by rw [HK.out]; simp), if_pos c5]
      have n5 : (lsz t != (zs.length : Int)) = true := by simp; omega
      clear c5
      go_wp2_with fail
      generalize hV : ((((w6.setCell ⟨w.heap.size, 0, none⟩ _).setCell ⟨w.heap.size, 1, none⟩ _).setCell ⟨w.heap.size, 2, none⟩ _).setCell ⟨w.heap.size, 3, none⟩ _) = V8; have hV9 : V8 = putRow w6 w.heap.size 0 [.int .i64 0, .int .u16 0, .int .u16 0, .int .u8 0] := hV.symm; have hb8 : But (fun b => b = w.heap.size) w6 V8 := by { rw [hV9]; exact putRow_but (E := fun b => b = w.heap.size) (n := w.heap.size) rfl _ _ _ _ (But.refl _ _) }; have p8 := putRow_all [.int .i64 0, .int .u16 0, .int .u16 0, .int .u8 0] RA6.out rfl; rw [← hV9] at p8; clear hV hV9; have P8 := block_cell p8; have hw8 : Below w.heap.size w V8 := (hw6).trans (hb8.below (hw6).size (fun k h e => by omega)); exact bodyPost_ret (v := .tuple #[msg 0 0 0 0, .int .i64 4]) (by simp [results, Try.results10, go_sem, P8]) rfl ⟨by rw [msg_no HF.out (by decide), HF.out], hw8⟩
    have HF : Hid (lye zs = 0) := by show _ = _; rw [HF0.out, if_neg (by rw [HK.out]; simp), if_neg (by simp [c5])]
    have n5 : (lsz t != (zs.length : Int)) = false := by simp [c5]
    have C5 := hide c5
    obtain ⟨mT, mR, mC, mP⟩ := HMT.out HF.out
    have MT := hide mT
    have MR := hide mR
    have MC := hide mC
    have MP := hide mP
    clear mT mR mC mP c5 HMT HF0
    by_cases k8 : t = 8
    · subst k8
      have hlen : zs.length = 32 := by have := C5.out; have e : lsz 8 = 32 := rfl; omega
      have HM : Hid (msg (pmT zs) (getAt2 zs (lyC zs)) (getAt2 zs (lyP zs)) (pmR zs) = msg 8 (getAt2 zs 12) (getAt2 zs 14) (zs[16]?.getD 0)) := by
        show _ = _
        rw [MT.out, MR.out, MC.out, MP.out, if_pos rfl]
        rfl
      have HLEN := hide hlen
      clear hlen
      go_upto_region 13 with fail
      have hlen := HLEN.out
      have HG12 := hide (fun v (h : Rd n₀ v (.slice a zs.length cap) zs) => rget16_at _ zs hB 12 (by omega) hl v h)
      have HG14 := hide (fun v (h : Rd n₀ v (.slice a zs.length cap) zs) => rget16_at _ zs hB 14 (by omega) hl v h)
      obtain ⟨b, off, cp0, e0, hlc, hmc, hbb, hcs⟩ := hI6.cells (by omega)
      have hcl := e0
      simp at hcl
      obtain ⟨rfl, rfl⟩ := hcl
      clear e0
      have d16 := hcs 16 (by omega)
      have hi16 : (16 : Int) < zs.length := by omega
      have hbmb : ¬ b = mb := by omega
      clear hcs hlen
      generalize zs[16]?.getD 0 = z at *
      generalize getAt2 zs 12 = mc at *
      generalize getAt2 zs 14 = mp at *
      clear CA FA CB FB
      refine anyT_begin (R := But (fun q => q = mb)) 13 rfl (by kernel_rfl) ?_
      have hd : Later w6 w6.drew := Later.drew w6
      have hI7 : Rd n₀ w6.drew (.slice (some ⟨b, off, none⟩) zs.length cap) zs := hI6.below (Below.mono hd (Nat.le_trans hn hw6.size))
      have RB7 := hide ((hd.block mb (Array.getElem?_eq_some_iff.1 RB6.out).1).trans RB6.out)
      have RA7 := hide ((hd.block w.heap.size (Array.getElem?_eq_some_iff.1 RA6.out).1).trans RA6.out)
      have hw7 : Below w.heap.size w w6.drew := Later.below hw6 (Nat.le_refl _) hd
      have d7 := hd.cell d16
      generalize w6.drew = w7 at *
      have cz : ∀ v, But (fun q => q = mb) w7 v → v.cell? ⟨b, off + 16, none⟩ = some (.int .u8 z) := fun v h => h.cell d7 hbmb
      refine anyT_val (But.pre _) 0 rfl (by kernel_rfl) (by kernel_rfl) (by kernel_rfl) (fun _ _ _ _ h => h) rfl ?_; apply Exists.intro; refine ⟨fun v1 hv1 => ?_, ?_⟩; (· (go_simp; rfl)); simp only [Act.put, List.setIfInBounds_toArray, List.set_cons_zero, List.set_cons_succ]
      refine anyT_val (But.pre _) 2 rfl (by kernel_rfl) (by kernel_rfl) (by kernel_rfl) (fun _ _ _ _ h => h) rfl ?_; apply Exists.intro; refine ⟨fun v1 hv1 => ?_, ?_⟩; (· (go_simp; rfl)); simp only [Act.put, List.setIfInBounds_toArray, List.set_cons_zero, List.set_cons_succ]
      refine anyT_val (But.pre _) 4 rfl (by kernel_rfl) (by kernel_rfl) (by kernel_rfl) (fun _ _ _ _ h => h) rfl ?_; apply Exists.intro; refine ⟨fun v1 hv1 => ?_, ?_⟩; (· (go_simp; rfl)); simp only [Act.put, List.setIfInBounds_toArray, List.set_cons_zero, List.set_cons_succ]
      refine anyT_val (But.pre _) 5 rfl (by kernel_rfl) (by kernel_rfl) (by kernel_rfl) (fun _ _ _ _ h => h) rfl ?_; apply Exists.intro; refine ⟨fun v1 hv1 => ?_, ?_⟩; (· (go_simp; rfl)); simp only [Act.put, List.setIfInBounds_toArray, List.set_cons_zero, List.set_cons_succ]
      refine anyT_val (But.pre _) 6 rfl (by kernel_rfl) (by kernel_rfl) (by kernel_rfl) (fun _ _ _ _ h => h) rfl ?_; apply Exists.intro; refine ⟨fun v1 hv1 => ?_, ?_⟩; (· (go_simp; rfl)); simp only [Act.put, List.setIfInBounds_toArray, List.set_cons_zero, List.set_cons_succ]
      clear cz
      refine anyT_one 1 rfl (by kernel_rfl) rfl ?_
      refine wp_enter 23 #[.slice (some ⟨b, off, none⟩) zs.length cap, .int .i64 12] (by go_simp) ((HG12.out w7 hI7).mono ?_)
      rintro e w8 ⟨rfl, q8, hq8⟩
      have L8 : Later w7 w8 := by rw [hq8]; exact below_draw (Below.refl _ _) q8
      refine ⟨But.of L8, ?_⟩
      simp only [Act.put, List.setIfInBounds_toArray, List.set_cons_zero, List.set_cons_succ]
      refine anyT_val (But.pre _) 7 rfl (by kernel_rfl) (by kernel_rfl) (by kernel_rfl) (fun _ _ _ _ h => h) rfl ?_; apply Exists.intro; refine ⟨fun v1 hv1 => ?_, ?_⟩; (· (go_simp; rfl)); simp only [Act.put, List.setIfInBounds_toArray, List.set_cons_zero, List.set_cons_succ]
      refine anyT_one 3 rfl (by kernel_rfl) rfl ?_
      have hI8 : Rd n₀ w8 (.slice (some ⟨b, off, none⟩) zs.length cap) zs := by rw [hq8]; exact hI7.drew q8
      refine wp_enter 23 #[.slice (some ⟨b, off, none⟩) zs.length cap, .int .i64 14] (by go_simp) ((HG14.out w8 hI8).mono ?_)
      rintro e w9 ⟨rfl, q9, hq9⟩
      have L9 : Later w8 w9 := by rw [hq9]; exact below_draw (Below.refl _ _) q9
      refine ⟨But.of L9, ?_⟩
      simp only [Act.put, List.setIfInBounds_toArray, List.set_cons_zero, List.set_cons_succ]
      have rB9 := ((L8.trans L9).block mb (Array.getElem?_eq_some_iff.1 RB7.out).1).trans RB7.out
      have RA9 := hide (((L8.trans L9).block w.heap.size (Array.getElem?_eq_some_iff.1 RA7.out).1).trans RA7.out)
      have hw9 : Below w.heap.size w w9 := Later.below hw7 (Nat.le_refl _) (L8.trans L9)
      clear hq8 hq9 L8 L9 hI7 hI8 HG12 HG14 RB7 RA7 d7 d16
      have CB := block_cell rB9
      have FB := block_frozen rB9
      have rB10 := heap_set1 rB9 1 (.int .u16 mc)
      have RB10 := hide rB10
      have RA10 := hide ((Below.heap_setCell w9 ⟨mb, 1, none⟩ (.int .u16 mc) w.heap.size (by simp; omega)).trans RA9.out)
      have hw10 : Below w.heap.size w (w9.setCell ⟨mb, 1, none⟩ (.int .u16 mc)) := hw9.setCell (p := ⟨mb, 1, none⟩) (by simp; omega) _
      have bt1 : Hid (But (fun q => q = mb) w9 (w9.setCell ⟨mb, 1, none⟩ (.int .u16 mc))) := But.setCell (E := fun q => q = mb) (But.refl _ _) (p := ⟨mb, 1, none⟩) rfl _
      clear rB10
      refine anyT_one 8 rfl (by kernel_rfl) rfl ?_
      unfold Oper.wp
      go_simp
      refine ⟨bt1.out, ?_⟩
      clear bt1 CB FB rB9
      generalize w9.setCell ⟨mb, 1, none⟩ _ = w10 at *
      refine anyT_val (But.pre _) 9 rfl (by kernel_rfl) (by kernel_rfl) (by kernel_rfl) (fun _ _ _ _ h => h) rfl ?_; apply Exists.intro; refine ⟨fun v1 hv1 => ?_, ?_⟩; (· (go_simp; rfl)); simp only [Act.put, List.setIfInBounds_toArray, List.set_cons_zero, List.set_cons_succ]
      have rB10 := RB10.out
      have CB := block_cell rB10
      have FB := block_frozen rB10
      have RB11 := hide (heap_set1 rB10 2 (.int .u16 mp))
      have RA11 := hide ((Below.heap_setCell w10 ⟨mb, 2, none⟩ (.int .u16 mp) w.heap.size (by simp; omega)).trans RA10.out)
      have hw11 : Below w.heap.size w (w10.setCell ⟨mb, 2, none⟩ (.int .u16 mp)) := hw10.setCell (p := ⟨mb, 2, none⟩) (by simp; omega) _
      have bt1 : Hid (But (fun q => q = mb) w10 (w10.setCell ⟨mb, 2, none⟩ (.int .u16 mp))) := But.setCell (E := fun q => q = mb) (But.refl _ _) (p := ⟨mb, 2, none⟩) rfl _
      refine anyT_one 10 rfl (by kernel_rfl) rfl ?_
      unfold Oper.wp
      go_simp
      refine ⟨bt1.out, ?_⟩
      clear bt1 CB FB rB10
      generalize w10.setCell ⟨mb, 2, none⟩ _ = w11 at *
      refine anyT_val (But.pre _) 11 rfl (by kernel_rfl) (by kernel_rfl) (by kernel_rfl) (fun _ _ _ _ h => h) rfl ?_; apply Exists.intro; refine ⟨fun v1 hv1 => ?_, ?_⟩; (· (go_simp; rfl)); simp only [Act.put, List.setIfInBounds_toArray, List.set_cons_zero, List.set_cons_succ]
      have rB11 := RB11.out
      have CB := block_cell rB11
      have FB := block_frozen rB11
      have RB12 := hide (heap_set1 rB11 3 (.int .u8 z))
      have RA12 := hide ((Below.heap_setCell w11 ⟨mb, 3, none⟩ (.int .u8 z) w.heap.size (by simp; omega)).trans RA11.out)
      have hw12 : Below w.heap.size w (w11.setCell ⟨mb, 3, none⟩ (.int .u8 z)) := hw11.setCell (p := ⟨mb, 3, none⟩) (by simp; omega) _
      have bt1 : Hid (But (fun q => q = mb) w11 (w11.setCell ⟨mb, 3, none⟩ (.int .u8 z))) := But.setCell (E := fun q => q = mb) (But.refl _ _) (p := ⟨mb, 3, none⟩) rfl _
      refine anyT_one 12 rfl (by kernel_rfl) rfl ?_
      unfold Oper.wp
      go_simp
      refine ⟨bt1.out, ?_⟩
      clear bt1 CB FB rB11
      generalize w11.setCell ⟨mb, 3, none⟩ _ = w12 at *
      refine anyT_done (by kernel_rfl) ?_
      go_upto_region 16 with fail
      have CB := block_cell RB12.out
      have CA := block_cell RA12.out
      have FA := block_frozen RA12.out
      simp at CB
      go_wp2_with fail
      generalize hV : ((((w12.setCell ⟨w.heap.size, 0, none⟩ _).setCell ⟨w.heap.size, 1, none⟩ _).setCell ⟨w.heap.size, 2, none⟩ _).setCell ⟨w.heap.size, 3, none⟩ _) = V8
      have hV9 : V8 = putRow w12 w.heap.size 0 [.int .i64 8, .int .u16 mc, .int .u16 mp, .int .u8 z] := hV.symm
      have hb8 : But (fun b => b = w.heap.size) w12 V8 := by rw [hV9]; exact putRow_but (E := fun b => b = w.heap.size) (n := w.heap.size) rfl _ _ _ _ (But.refl _ _)
      have p8 := putRow_all [.int .i64 8, .int .u16 mc, .int .u16 mp, .int .u8 z] RA12.out rfl
      rw [← hV9] at p8
      clear hV hV9
      have P8 := block_cell p8
      have hw8 : Below w.heap.size w V8 := hw12.trans (hb8.below hw12.size (fun k h e => by omega))
      exact bodyPost_ret (v := .tuple #[msg 8 mc mp z, .int .i64 0]) (by simp [results, Try.results10, go_sem, P8]) rfl ⟨by rw [HM.out, HF.out], hw8⟩
    by_cases k15 : t = 15
    · subst k15
      have HM : Hid (msg (pmT zs) (getAt2 zs (lyC zs)) (getAt2 zs (lyP zs)) (pmR zs) = msg 15 0 (getAt2 zs 12) 0) := by
        show _ = _
        rw [MT.out, MR.out, MC.out, MP.out, if_neg (by omega), show lca 15 = -1 from rfl, show lpe 15 = 12 from rfl, getAt2_neg]
      go_upto_region 15 with fail
      have HG12 := hide (rget16_at _ zs hB 12 (by omega) hl w6 hI6)
      generalize getAt2 zs 12 = mc at *
      clear CA FA CB FB
      go_wp2_with fail
      refine HG12.out.mono ?_
      rintro e w8 ⟨rfl, q8, hq8⟩
      have hrB8 : w8.heap[mb]? = some (.cells #[.int .i64 15, .int .u16 0, .int .u16 0, .int .u8 0] 29 (0, 0)) := by rw [hq8]; exact RB6.out
      have hrA8 : w8.heap[w.heap.size]? = some (.cells #[.int .i64 0, .int .u16 0, .int .u16 0, .int .u8 0] 29 (0, 0)) := by rw [hq8]; exact RA6.out
      have hw8 : Below w.heap.size w w8 := by rw [hq8]; exact below_draw hw6 q8
      clear hq8 HG12
      have CB := block_cell hrB8
      have FB := block_frozen hrB8
      have RB9 := hide (heap_set1 hrB8 2 (.int .u16 mc))
      have RA9 := hide ((Below.heap_setCell w8 ⟨mb, 2, none⟩ (.int .u16 mc) w.heap.size (by simp; omega)).trans hrA8)
      have hw9 : Below w.heap.size w (w8.setCell ⟨mb, 2, none⟩ (.int .u16 mc)) := hw8.setCell (p := ⟨mb, 2, none⟩) (by simp; omega) _
      clear hrA8 hrB8
      go_upto_region 16 with fail
      generalize w8.setCell ⟨mb, 2, none⟩ _ = w9 at *
      clear CB FB hw8
      have CB := block_cell RB9.out
      have CA := block_cell RA9.out
      have FA := block_frozen RA9.out
      simp at CB
      go_wp2_with fail
      generalize hV : ((((w9.setCell ⟨w.heap.size, 0, none⟩ _).setCell ⟨w.heap.size, 1, none⟩ _).setCell ⟨w.heap.size, 2, none⟩ _).setCell ⟨w.heap.size, 3, none⟩ _) = V8
      have hV9 : V8 = putRow w9 w.heap.size 0 [.int .i64 15, .int .u16 0, .int .u16 mc, .int .u8 0] := hV.symm
      have hb8 : But (fun b => b = w.heap.size) w9 V8 := by rw [hV9]; exact putRow_but (E := fun b => b = w.heap.size) (n := w.heap.size) rfl _ _ _ _ (But.refl _ _)
      have p8 := putRow_all [.int .i64 15, .int .u16 0, .int .u16 mc, .int .u8 0] RA9.out rfl
      rw [← hV9] at p8
      clear hV hV9
      have P8 := block_cell p8
      have hw8 : Below w.heap.size w V8 := hw9.trans (hb8.below hw9.size (fun k h e => by omega))
      exact bodyPost_ret (v := .tuple #[msg 15 0 mc 0, .int .i64 0]) (by simp [results, Try.results10, go_sem, P8]) rfl ⟨by rw [HM.out, HF.out], hw8⟩
    have f8 : (t == 8) = false := by simp [k8]
    have f15 : (t == 15) = false := by simp [k15]
    have HM : Hid (msg (pmT zs) (getAt2 zs (lyC zs)) (getAt2 zs (lyP zs)) (pmR zs) = msg t (getAt2 zs 12) 0 0) := by
      show _ = _
      have := lca_at HK.out
      rw [MT.out, MR.out, MC.out, MP.out, if_neg k8, show lca t = 12 from by omega, show lpe t = -1 from by omega, getAt2_neg]
    clear k8 k15
    go_upto_region 11 with fail
    have HG12 := hide (rget16_at _ zs hB 12 (by omega) hl w6 hI6)
    generalize getAt2 zs 12 = mc at *
    clear CA FA CB FB
    go_wp2_with fail
    refine HG12.out.mono ?_
    rintro e w8 ⟨rfl, q8, hq8⟩
    have hrB8 : w8.heap[mb]? = some (.cells #[.int .i64 t, .int .u16 0, .int .u16 0, .int .u8 0] 29 (0, 0)) := by rw [hq8]; exact RB6.out
    have hrA8 : w8.heap[w.heap.size]? = some (.cells #[.int .i64 0, .int .u16 0, .int .u16 0, .int .u8 0] 29 (0, 0)) := by rw [hq8]; exact RA6.out
    have hw8 : Below w.heap.size w w8 := by rw [hq8]; exact below_draw hw6 q8
    clear hq8 HG12
    have CB := block_cell hrB8
    have FB := block_frozen hrB8
    have RB9 := hide (heap_set1 hrB8 1 (.int .u16 mc))
    have RA9 := hide ((Below.heap_setCell w8 ⟨mb, 1, none⟩ (.int .u16 mc) w.heap.size (by simp; omega)).trans hrA8)
    have hw9 : Below w.heap.size w (w8.setCell ⟨mb, 1, none⟩ (.int .u16 mc)) := hw8.setCell (p := ⟨mb, 1, none⟩) (by simp; omega) _
    clear hrA8 hrB8
    go_upto_region 16 with fail
    generalize w8.setCell ⟨mb, 1, none⟩ _ = w9 at *
    clear CB FB hw8
    have CB := block_cell RB9.out
    have CA := block_cell RA9.out
    have FA := block_frozen RA9.out
    simp at CB
    go_wp2_with fail
    generalize hV : ((((w9.setCell ⟨w.heap.size, 0, none⟩ _).setCell ⟨w.heap.size, 1, none⟩ _).setCell ⟨w.heap.size, 2, none⟩ _).setCell ⟨w.heap.size, 3, none⟩ _) = V8
    have hV9 : V8 = putRow w9 w.heap.size 0 [.int .i64 t, .int .u16 mc, .int .u16 0, .int .u8 0] := hV.symm
    have hb8 : But (fun b => b = w.heap.size) w9 V8 := by rw [hV9]; exact putRow_but (E := fun b => b = w.heap.size) (n := w.heap.size) rfl _ _ _ _ (But.refl _ _)
    have p8 := putRow_all [.int .i64 t, .int .u16 mc, .int .u16 0, .int .u8 0] RA9.out rfl
    rw [← hV9] at p8
    clear hV hV9
    have P8 := block_cell p8
    have hw8 : Below w.heap.size w V8 := hw9.trans (hb8.below hw9.size (fun k h e => by omega))
    exact bodyPost_ret (v := .tuple #[msg t mc 0 0, .int .i64 0]) (by simp [results, Try.results10, go_sem, P8]) rfl ⟨by rw [HM.out, HF.out], hw8⟩
end Go.Proofs.Ytochdlmggbhmfaa
