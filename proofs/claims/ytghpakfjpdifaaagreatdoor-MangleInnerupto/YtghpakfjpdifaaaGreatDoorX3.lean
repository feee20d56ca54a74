/- Several texts in one. -/
import Derived.Test.YtghpakfjpdifaaaGreatDoorX9
import Derived.Test.YtghpakfjpdifaaaGreatDoorX4
import Derived.Test.YtghpakfjpdifaaaGreatDoorV4
import Derived.Test.YtghpakfjpdifaaaGreatDoorW8
import Derived.Test.YtghpakfjpdifaaaGreatDoorSE
import Derived.Test.YtghpakfjpdifaaaGreatDoorX7
/- A guarded operation that is not wanted is passed over. -/
namespace Go.Proofs.YtghpakfjpdifaaaGreatDoor
open Go.RowKit Go.Shelf
set_option maxRecDepth 100000
set_option linter.unusedVariables false
set_option linter.unusedSimpArgs false

section
variable {P : Program} {l : List Oper} {Q : Exit → Act → World → Prop} {fuel : Nat} {listed : Array Bool} {a : Act} {w : World} {R : World → World → Prop}
end

end Go.Proofs.YtghpakfjpdifaaaGreatDoor

/- Layer 10: live, told; the walk of MangleTuple. -/
namespace Go.Proofs.YtghpakfjpdifaaaGreatDoor
open Go.RowKit Go.Shelf
set_option maxRecDepth 100000
set_option linter.unusedVariables false
set_option linter.unusedSimpArgs false

theorem zero_rd' (W : World) : Rd W.heap.size W (.slice none 0 0) [] := .inl ⟨_, _, rfl, rfl, by omega, fun _ => rfl⟩
theorem udp_lv : Mt.By (udp 3 4 false 1 2 []) ∧ (udp 3 4 false 1 2 []).length = 8 ∧ ofe 17 1 2 (udp 3 4 false 1 2 []) = 0 := by
 refine ⟨?_, ?_, ?_⟩
 ·intro z hz
  revert z
  decide +kernel
 ·decide +kernel
 ·decide +kernel

set_option maxHeartbeats 8000000 in
theorem live10_any (w : World) (hT : Tb w) : Calls Tryz.prog 7 #[] w fun e w' => e = .returned (.bool true) ∧ Later w w' := by
 obtain ⟨hB0, hL0, hO0⟩ := udp_lv
 have HU := hide (rbuildUdp_any 0 0 0 0 1 2 3 4 false false (.slice none 0 0) (.slice none 0 0) none 0 0 [] [] w (zero_rd' w) Mt.By.nil (zero_rd' w) (by simp) (by simp) (by omega) (by omega) (by omega) (by omega))
 generalize udp 3 4 false 1 2 [] = zu at *
 go_enter Tryz.func7, Tryz.ntmps7
 go_wp2_with fail
 refine HU.out.mono ?_
 rintro e w1 ⟨hb1, ⟨hf, _⟩ | ⟨hf, a7, c7, a8, c8, rfl, hO7, hO8⟩⟩
 ·exact absurd (by decide) hf
 simp only [List.length_nil, Nat.add_zero] at *
 have l1 : Later w w1 := hb1
 have HL0 := hide hL0
 have HO0 := hide hO0
 have hT1 := hT.below hb1 hT.pos
 have kp := heap_alloc_new w1 (.cells #[.int .u8 0, .int .u16 0, .bool false, .int .u8 0, .int .u8 17, .int .u32 1, .int .u32 2, .slice a7 0 c7, .slice a8 8 c8] 26)
 have l2 := later_alloc' w1 (.cells #[.int .u8 0, .int .u16 0, .bool false, .int .u8 0, .int .u8 17, .int .u32 1, .int .u32 2, .slice a7 0 c7, .slice a8 8 c8] 26)
 have KP := hide kp
 clear hL0 hO0 HU hb1 hf kp
 go_upto_region 2 with fail
 generalize w1.alloc _ = w2 at *
 have HR := hide (rewrite_any 0 0 0 17 1 2 false (.slice a7 0 c7) (.slice a8 8 c8) [] zu 17 5 2 6 4 w2 (hT1.below l2 hT1.pos) Mt.By.nil hB0 ((hO7.later l2).rd) ((hO8.later l2).rd) (by simp) (by rw [HL0.out]; omega) (by omega) (by omega) (by omega) (by omega) (by omega) (by omega) (by omega) (by omega) (by omega) (by omega))
 have HZ : Hid (rwe 17 17 1 2 ([] : List Int).length zu = 0) := by show _ = _; unfold rwe; rw [if_neg (by simp), HO0.out, if_neg (by simp), HL0.out]; rfl
 have HTL := hide (rwD_tells (s := 5) (d := 2) (a := 6) (b := 4) hB0 HO0.out (by omega) (by omega) (by omega) (by omega))
 have HBR := hide (rwD_by (pr := 17) (s := 5) (d := 2) hB0 (a := 6) (b := 4) (by omega) (by omega))
 have HLR := hide (rwD_length 17 5 2 6 4 zu)
 generalize rwD 17 5 2 6 4 zu = zr at *
 have kP := block_cell KP.out
 go_wp2_with fail
 refine HR.out.mono ?_
 rintro e w3 ⟨hb3, ⟨hf, _⟩ | ⟨hf, ao, co, ad, cd, rfl, hOo, hOd⟩⟩
 ·exact absurd HZ.out hf
 have l3 : Later w2 w3 := hb3
 rw [HL0.out] at hOd ⊢
 simp only [List.length_nil] at *
 have kq := heap_alloc_new w3 (.cells #[.int .u8 0, .int .u16 0, .bool false, .int .u8 0, .int .u8 17, .int .u32 5, .int .u32 2, .slice ao 0 co, .slice ad 8 cd] 26)
 have l4 := later_alloc' w3 (.cells #[.int .u8 0, .int .u16 0, .bool false, .int .u8 0, .int .u8 17, .int .u32 5, .int .u32 2, .slice ao 0 co, .slice ad 8 cd] 26)
 have KQ := hide kq
 clear kP HR hf hb3 kq
 go_upto_region 3 with fail
 generalize w3.alloc _ = w4 at *
 have kQ := block_cell KQ.out
 have HOF := hide (rof_any 0 0 0 17 5 2 false (.slice ao 0 co) (.slice ad 8 cd) zr w4 HBR.out (hOd.later l4).rd (by rw [HLR.out, HL0.out]; omega) (by omega) (by omega))
 rw [HTL.out.1, HTL.out.2.1, HTL.out.2.2, otv_ok] at HOF
 simp only [show (if (17 : Int) = 47 then (0 : Int) else 6) = 6 from rfl, show (if (17 : Int) = 1 then (6 : Int) else 4) = 4 from rfl] at HOF
 go_wp2_with fail
 refine HOF.out.mono ?_
 rintro e w5 ⟨hb5, rfl⟩
 have l5 : Later w4 w5 := hb5
 go_wp2_with fail
 go_ret
 exact ⟨rfl, l1.trans (l2.trans (l3.trans (l4.trans (l5.trans (later_alloc' _ _)))))⟩
end Go.Proofs.YtghpakfjpdifaaaGreatDoor

/- Package mangle: what a requoted error tells. -/
namespace Go.Proofs.YtghpakfjpdifaaaGreatDoor
open Go.RowKit Go.Shelf
set_option maxRecDepth 100000
set_option linter.unusedVariables false
set_option linter.unusedSimpArgs false

theorem rnm_eq {zs : List Int} (s d : Int) (h : 20 ≤ zs.length) : rnm s d zs = Mt.put2 (Mt.put2 (put4 (put4 zs 12 s) 16 d) 10 0) 10 (Mt.cks (Mt.put2 (put4 (put4 zs 12 s) 16 d) 10 0)) := by
 unfold rnm
 rw [putAt4_lit zs 12 12 s rfl (by omega), putAt4_lit _ 16 16 d rfl (by rw [put4_length]; omega), putAt2_lit _ 10 10 0 rfl (by rw [put4_length, put4_length]; omega), putAt2_lit _ 10 10 _ rfl (by rw [Mt.put2_length, put4_length, put4_length]; omega)]
theorem rnm_other {zs : List Int} (s d : Int) (h : 20 ≤ zs.length) (j : Nat) (hj : j < 10 ∨ 20 ≤ j) : (rnm s d zs)[j]? = zs[j]? := by
 rw [rnm_eq s d h, Mt.put2_other _ _ _ _ (by omega) (by omega), Mt.put2_other _ _ _ _ (by omega) (by omega), put4_other _ _ _ _ (by omega), put4_other _ _ _ _ (by omega)]
theorem rnm_good {zs : List Int} {s d : Int} (hB : Mt.By zs) (hs : 0 ≤ s ∧ s ≤ 4294967295) (hd : 0 ≤ d ∧ d ≤ 4294967295) (h : 20 ≤ zs.length) : Mt.cks (rnm s d zs) = 0 := by
 rw [rnm_eq s d h]
 have hB2 : Mt.By (Mt.put2 (put4 (put4 zs 12 s) 16 d) 10 0) := (By_put4 (By_put4 hB 12 hs) 16 hd).put2 10 (by omega)
 have hl : (put4 (put4 zs 12 s) 16 d).length = zs.length := by rw [put4_length, put4_length]
 refine good_bare _ 10 hB2 rfl (by rw [Mt.put2_length]; omega) ?_ ?_
 ·unfold Mt.put2
  rw [List.getElem?_set_ne (by omega), List.getElem?_set_self (by omega)]
  rfl
 ·unfold Mt.put2
  rw [List.getElem?_set_self (by rw [List.length_set]; omega)]
  rfl
theorem rnm_12 {zs : List Int} {s d : Int} (hs : 0 ≤ s) (hd : 0 ≤ d) (h : 20 ≤ zs.length) : wat4 (rnm s d zs) 12 = s ∧ wat4 (rnm s d zs) 16 = d := by
 rw [rnm_eq s d h]
 have o : ∀ (z : List Int) (v : Int) (k : Nat), 12 ≤ k → wat4 (Mt.put2 z 10 v) k = wat4 z k := fun z v k hk => by
  unfold wat4
  rw [wat_put2_other _ _ _ _ (by omega), wat_put2_other _ _ _ _ (by omega)]
 rw [o _ _ 12 (by omega), o _ _ 12 (by omega), o _ _ 16 (by omega), o _ _ 16 (by omega)]
 refine ⟨?_, wat4_put4 _ _ _ (by rw [put4_length]; omega) hd⟩
 have e : wat4 (put4 (put4 zs 12 s) 16 d) 12 = wat4 (put4 zs 12 s) 12 := wat4_same (fun j h1 h2 => put4_other _ _ _ _ (by omega))
 rw [e]
 exact wat4_put4 _ _ _ (by omega) hs

/-- What is requoted is quoted well, and tells the tuple. -/
theorem rqt_tells {mz : List Int} {s d a b : Int} (hB : Mt.By mz) (hrd : rde true mz = 0) (hq : qie (qpr mz) (qdt mz) = 0) (hs : 0 ≤ s ∧ s ≤ 4294967295) (hd : 0 ≤ d ∧ d ≤ 4294967295) (ha : 0 ≤ a ∧ a ≤ 65535) (hb : 0 ≤ b ∧ b ≤ 65535) :
  rde true (rqt (qun mz s d a b) mz) = 0 ∧ qpr (rqt (qun mz s d a b) mz) = qpr mz ∧ wat4 (rqt (qun mz s d a b) mz) 12 = s ∧ wat4 (rqt (qun mz s d a b) mz) 16 = d ∧ qdt (rqt (qun mz s d a b) mz) = qsD (qpr mz) (qun mz s d a b) (qdt mz) := by
 obtain ⟨h20, hhe, hel⟩ := rde_facts hB hrd
 have hlen := rqt_length (u := qun mz s d a b) hB hrd
 have hE : rqt (qun mz s d a b) mz = rnm s d (mz.take (hl4 mz).toNat) ++ (qsD (qpr mz) (qun mz s d a b) (qdt mz) ++ mz.drop (ral true mz).toNat) := rfl
 have hT : (mz.take (hl4 mz).toNat).length = (hl4 mz).toNat := by rw [List.length_take]; omega
 have hH : (rnm s d (mz.take (hl4 mz).toNat)).length = (hl4 mz).toNat := by rw [rnm_length, hT]
 have hQ : (qsD (qpr mz) (qun mz s d a b) (qdt mz)).length = (ral true mz).toNat - (hl4 mz).toNat := by rw [qsD_length]; unfold qdt; rw [List.length_drop, List.length_take]; omega
 have hg := rnm_good (hB.take (hl4 mz).toNat) hs hd (by rw [hT]; exact h20)
 have h12 := rnm_12 (zs := mz.take (hl4 mz).toNat) hs.1 hd.1 (by rw [hT]; exact h20)
 have hat : ∀ j, j < (hl4 mz).toNat → (rqt (qun mz s d a b) mz)[j]? = (rnm s d (mz.take (hl4 mz).toNat))[j]? := fun j hj => by rw [hE, List.getElem?_append_left (by omega)]
 have hsm : ∀ j, j < 10 → (rqt (qun mz s d a b) mz)[j]? = mz[j]? := fun j hj => by
  rw [hat j (by omega), rnm_other s d (by rw [hT]; exact h20) j (.inl hj), List.getElem?_take_of_lt (by omega)]
 have e0 := hsm 0 (by omega)
 have eh : hl4 (rqt (qun mz s d a b) mz) = hl4 mz := by unfold hl4; rw [e0]
 have e2 : wat (rqt (qun mz s d a b) mz) 2 = wat mz 2 := wat_same (hsm 2 (by omega)) (hsm 3 (by omega))
 have e6 : wat (rqt (qun mz s d a b) mz) 6 = wat mz 6 := wat_same (hsm 6 (by omega)) (hsm 7 (by omega))
 have er : ral true (rqt (qun mz s d a b) mz) = ral true mz := by unfold ral; rw [e2, hlen]
 have et : (rqt (qun mz s d a b) mz).take (hl4 mz).toNat = rnm s d (mz.take (hl4 mz).toNat) := by rw [hE, List.take_append_of_le_length (by omega), List.take_of_length_le (by omega)]
 refine ⟨?_, ?_, ?_, ?_, ?_⟩
 ·have em : msr (rqt (qun mz s d a b) mz) = msr mz := by unfold msr; rw [hlen, e0, eh, e2]
  unfold rde at hrd ⊢
  rw [em, hlen, er, eh]
  by_cases h1 : msr mz ≠ 0
  ·rw [if_pos h1] at hrd; exact absurd hrd h1
  rw [if_neg h1] at hrd ⊢
  by_cases h2 : (mz.length : Int) < ral true mz
  ·rw [if_pos h2] at hrd; exact absurd hrd (by decide)
  rw [if_neg h2] at hrd ⊢
  by_cases h3 : chk mz ≠ 0
  ·rw [if_pos h3] at hrd; exact absurd hrd h3
  rw [if_neg h3] at hrd
  have hc : chk (rqt (qun mz s d a b) mz) = 0 := by
   simp only [ne_eq, Decidable.not_not] at h3
   unfold chk at h3 ⊢
   rw [eh, et, hg, e6, if_neg (by simp)]
   split at h3
   ·exact absurd h3 (by decide)
   ·exact h3
  rw [if_neg (by rw [hc]; simp)]
  exact hrd
 ·unfold qpr; rw [hsm 9 (by omega)]
 ·unfold wat4 wat
  rw [hat 12 (by omega), hat 13 (by omega), hat (12 + 2) (by omega), hat (12 + 2 + 1) (by omega)]
  exact h12.1
 ·unfold wat4 wat
  rw [hat 16 (by omega), hat 17 (by omega), hat (16 + 2) (by omega), hat (16 + 2 + 1) (by omega)]
  exact h12.2
 ·have : qdt (rqt (qun mz s d a b) mz) = ((rqt (qun mz s d a b) mz).take (ral true mz).toNat).drop (hl4 mz).toNat := by unfold qdt; rw [er, eh]
  rw [this, hE, List.take_append, List.take_of_length_le (by omega), List.drop_append, List.drop_of_length_le (by omega), hH, Nat.sub_self, List.drop_zero, List.nil_append, List.take_append_of_le_length (by omega), List.take_of_length_le (by omega)]
end Go.Proofs.YtghpakfjpdifaaaGreatDoor

/- The walk of MangleTuple. -/
namespace Go.Proofs.YtghpakfjpdifaaaGreatDoor
open Go.RowKit Go.Shelf
set_option maxRecDepth 100000
set_option linter.unusedVariables false
set_option linter.unusedSimpArgs false

end Go.Proofs.YtghpakfjpdifaaaGreatDoor

/- The document's answer whether two segments are the same: where they are. -/
namespace Go.Proofs.YtghpakfjpdifaaaGreatDoor
open Go.RowKit Go.Shelf
set_option maxRecDepth 100000
set_option linter.unusedVariables false
set_option linter.unusedSimpArgs false

set_option maxHeartbeats 8000000 in
theorem rsameTcp_yes (sp dp sq ak fl wn ur : Int) (sO sm sO' sm' : Value) (os : List Opt) (zm : List Int) (w : World) (hI : RdO w.heap.size w sO os) (hI' : RdO w.heap.size w sO' os) (hM : Rd w.heap.size w sm zm) (hM' : Rd w.heap.size w sm' zm) :
  Calls Tryz.prog 40 #[.agg #[.int .u16 sp, .int .u16 dp, .int .u32 sq, .int .u32 ak, .int .u8 fl, .int .u16 wn, .int .u16 ur, sO, sm], .agg #[.int .u16 sp, .int .u16 dp, .int .u32 sq, .int .u32 ak, .int .u8 fl, .int .u16 wn, .int .u16 ur, sO', sm']] w fun e w' => e = .returned (.bool true) ∧ Below w.heap.size w w' := by
 obtain ⟨aO, cO, rfl, _, hcm⟩ := hI.slice
 obtain ⟨aP, cP, rfl, _, _⟩ := hI'.slice
 obtain ⟨am, cm, rfl, _, _⟩ := hM.slice
 obtain ⟨an, cn, rfl, _, _⟩ := hM'.slice
 have hbox : Below w.heap.size w ((w.alloc (.cells #[.int .u16 sp, .int .u16 dp, .int .u32 sq, .int .u32 ak, .int .u8 fl, .int .u16 wn, .int .u16 ur, .slice aO os.length cO, .slice am zm.length cm] 60)).alloc (.cells #[.int .u16 sp, .int .u16 dp, .int .u32 sq, .int .u32 ak, .int .u8 fl, .int .u16 wn, .int .u16 ur, .slice aP os.length cP, .slice an zm.length cn] 60)) := ((Below.refl w.heap.size w).alloc (Nat.le_refl _) _).alloc (by simp) _
 have s0 : ((w.alloc (.cells #[.int .u16 sp, .int .u16 dp, .int .u32 sq, .int .u32 ak, .int .u8 fl, .int .u16 wn, .int .u16 ur, .slice aO os.length cO, .slice am zm.length cm] 60)).alloc (.cells #[.int .u16 sp, .int .u16 dp, .int .u32 sq, .int .u32 ak, .int .u8 fl, .int .u16 wn, .int .u16 ur, .slice aP os.length cP, .slice an zm.length cn] 60)).heap[w.heap.size]? = some (.cells #[.int .u16 sp, .int .u16 dp, .int .u32 sq, .int .u32 ak, .int .u8 fl, .int .u16 wn, .int .u16 ur, .slice aO os.length cO, .slice am zm.length cm] 60) := (Below.heap_alloc _ _ _ (by simp)).trans (heap_alloc_new w _)
 have s1 : ((w.alloc (.cells #[.int .u16 sp, .int .u16 dp, .int .u32 sq, .int .u32 ak, .int .u8 fl, .int .u16 wn, .int .u16 ur, .slice aO os.length cO, .slice am zm.length cm] 60)).alloc (.cells #[.int .u16 sp, .int .u16 dp, .int .u32 sq, .int .u32 ak, .int .u8 fl, .int .u16 wn, .int .u16 ur, .slice aP os.length cP, .slice an zm.length cn] 60)).heap[w.heap.size + 1]? = some (.cells #[.int .u16 sp, .int .u16 dp, .int .u32 sq, .int .u32 ak, .int .u8 fl, .int .u16 wn, .int .u16 ur, .slice aP os.length cP, .slice an zm.length cn] 60) := by have := heap_alloc_new (w.alloc (.cells #[.int .u16 sp, .int .u16 dp, .int .u32 sq, .int .u32 ak, .int .u8 fl, .int .u16 wn, .int .u16 ur, .slice aO os.length cO, .slice am zm.length cm] 60)) (.cells #[.int .u16 sp, .int .u16 dp, .int .u32 sq, .int .u32 ak, .int .u8 fl, .int .u16 wn, .int .u16 ur, .slice aP os.length cP, .slice an zm.length cn] 60); simpa only [World.size_alloc] using this
 have S0 := hide s0
 have S1 := hide s1
 clear s0 s1
 go_enter Tryz.func40, Tryz.ntmps40
 go_upto_region 1 with fail
 generalize (w.alloc (.cells #[.int .u16 sp, .int .u16 dp, .int .u32 sq, .int .u32 ak, .int .u8 fl, .int .u16 wn, .int .u16 ur, .slice aO os.length cO, .slice am zm.length cm] 60)).alloc (.cells #[.int .u16 sp, .int .u16 dp, .int .u32 sq, .int .u32 ak, .int .u8 fl, .int .u16 wn, .int .u16 ur, .slice aP os.length cP, .slice an zm.length cn] 60) = W0 at *
 have K0 := block_cell S0.out
 have K1 := block_cell S1.out
 have ca := conv_rd 24 9 5 Tryz.underlying24 Tryz.underlying5 Tryz.underlying9 (hM.below hbox)
 have cb := conv_rd 24 9 5 Tryz.underlying24 Tryz.underlying5 Tryz.underlying9 (hM'.below hbox)
 have e0 : (sp != sp) = false := by simp
 have e1 : (dp != dp) = false := by simp
 have e2 : (sq != sq) = false := by simp
 have e3 : (ak != ak) = false := by simp
 have e4 : (fl != fl) = false := by simp
 have e5 : (wn != wn) = false := by simp
 have e6 : (ur != ur) = false := by simp
 have e7 : ((os.length : Int) != (os.length : Int)) = false := by simp
 go_upto_region 3 with fail
 clear ca cb e0 e1 e2 e3 e4 e5 e6 e7
 go_wp2_with fail
 go_loopw [5] (fun i wr => ∃ k : Nat, k ≤ os.length ∧ i = .int .i64 (k : Int) ∧ Later W0 wr) (fun i _ => os.length - (intOf i).toNat)
 case atStart => exact ⟨0, by omega, rfl, Later.refl _⟩
 case round =>
  obtain ⟨k, hk, rfl, hl⟩ := hrel
  have k0 := block_cell (later_keep hl S0.out)
  have k1 := block_cell (later_keep hl S1.out)
  have hbr := hbox.trans (hl.mono hbox.size)
  clear K0 K1
  by_cases hlt : k < os.length
  ·obtain ⟨b, off, cp, e, _, _, hbb, hcs⟩ := (hI.below hbr).cells (by omega)
   simp at e
   obtain ⟨rfl, rfl⟩ := e
   obtain ⟨b', off', cp', e', _, _, hbb', hcs'⟩ := (hI'.below hbr).cells (by omega)
   simp at e'
   obtain ⟨rfl, rfl⟩ := e'
   obtain ⟨s, c0, c1, hRs⟩ := hcs k hlt
   obtain ⟨s', c0', c1', hRs'⟩ := hcs' k hlt
   clear hcs hcs'
   obtain ⟨sa, sc, rfl, _, _⟩ := hRs.slice
   obtain ⟨sb, sd, rfl, _, _⟩ := hRs'.slice
   generalize os[k]?.getD (0, []) = o at *
   obtain ⟨kd, dt⟩ := o
   dsimp only at c0 c1 hRs c0' c1' hRs'
   have hlt' : (k : Int) < os.length := by omega
   have ek : (kd != kd) = false := by simp
   go_upto_region 6 with fail
   refine anyR_begin Later.pre Later.drew 30 rfl (by kernel_rfl) (fun W2 hW2 => ?_)
   have q0 : ∀ v1, Later W2 v1 → ∀ i, v1.cell? ⟨w.heap.size, i, none⟩ = #[Value.int .u16 sp, .int .u16 dp, .int .u32 sq, .int .u32 ak, .int .u8 fl, .int .u16 wn, .int .u16 ur, .slice (some ⟨b, off, none⟩) os.length cO, .slice am zm.length cm][i]? := fun v1 h => block_cell (later_keep ((hl.trans hW2).trans h) S0.out)
   have q1 : ∀ v1, Later W2 v1 → ∀ i, v1.cell? ⟨w.heap.size + 1, i, none⟩ = #[Value.int .u16 sp, .int .u16 dp, .int .u32 sq, .int .u32 ak, .int .u8 fl, .int .u16 wn, .int .u16 ur, .slice (some ⟨b', off', none⟩) os.length cP, .slice an zm.length cn][i]? := fun v1 h => block_cell (later_keep ((hl.trans hW2).trans h) S1.out)
   have q2 : ∀ v1, Later W2 v1 → v1.cell? ⟨b, off + k * 2, none⟩ = some (.int .u8 kd) := fun v1 h => (hW2.trans h).cell c0
   have q3 : ∀ v1, Later W2 v1 → v1.cell? ⟨b, off + k * 2 + 1, none⟩ = some (.slice sa dt.length sc) := fun v1 h => (hW2.trans h).cell c1
   have q4 : ∀ v1, Later W2 v1 → v1.cell? ⟨b', off' + k * 2, none⟩ = some (.int .u8 kd) := fun v1 h => (hW2.trans h).cell c0'
   have q5 : ∀ v1, Later W2 v1 → v1.cell? ⟨b', off' + k * 2 + 1, none⟩ = some (.slice sb dt.length sd) := fun v1 h => (hW2.trans h).cell c1'
   have q6 : ∀ v1, Later W2 v1 → (convert 24 9 (.slice sa dt.length sc)).run Tryz.prog v1 = .ok (.string (strOfNums dt)) v1 := fun v1 h => conv_rd 24 9 5 Tryz.underlying24 Tryz.underlying5 Tryz.underlying9 (hRs.below (((hW2.trans h)).mono hbr.size))
   have q7 : ∀ v1, Later W2 v1 → (convert 24 9 (.slice sb dt.length sd)).run Tryz.prog v1 = .ok (.string (strOfNums dt)) v1 := fun v1 h => conv_rd 24 9 5 Tryz.underlying24 Tryz.underlying5 Tryz.underlying9 (hRs'.below (((hW2.trans h)).mono hbr.size))
   clear k0 k1 c0 c1 c0' c1'
   refine rV Later.pre 0 rfl rfl ?_; apply Exists.intro; refine ⟨fun w1 hw1 => ?_, ?_⟩; (· (go_simp; rfl)); simp only [Act.put, sA, sB, sC]
   refine rV Later.pre 1 rfl rfl ?_; apply Exists.intro; refine ⟨fun w1 hw1 => ?_, ?_⟩; (· (go_simp; rfl)); simp only [Act.put, sA, sB, sC]
   refine rV Later.pre 2 rfl rfl ?_; apply Exists.intro; refine ⟨fun w1 hw1 => ?_, ?_⟩; (· (go_simp; rfl)); simp only [Act.put, sA, sB, sC]
   refine rV Later.pre 3 rfl rfl ?_; apply Exists.intro; refine ⟨fun w1 hw1 => ?_, ?_⟩; (· (go_simp; rfl)); simp only [Act.put, sA, sB, sC]
   refine rV Later.pre 4 rfl rfl ?_; apply Exists.intro; refine ⟨fun w1 hw1 => ?_, ?_⟩; (· (go_simp; rfl)); simp only [Act.put, sA, sB, sC]
   refine rV Later.pre 5 rfl rfl ?_; apply Exists.intro; refine ⟨fun w1 hw1 => ?_, ?_⟩; (· (go_simp; rfl)); simp only [Act.put, sA, sB, sC]
   refine rV Later.pre 6 rfl rfl ?_; apply Exists.intro; refine ⟨fun w1 hw1 => ?_, ?_⟩; (· (go_simp; rfl)); simp only [Act.put, sA, sB, sC]
   refine rV Later.pre 7 rfl rfl ?_; apply Exists.intro; refine ⟨fun w1 hw1 => ?_, ?_⟩; (· (go_simp; rfl)); simp only [Act.put, sA, sB, sC]
   refine rV Later.pre 8 rfl rfl ?_; apply Exists.intro; refine ⟨fun w1 hw1 => ?_, ?_⟩; (· (go_simp; rfl)); simp only [Act.put, sA, sB, sC]
   refine rV Later.pre 9 rfl rfl ?_; apply Exists.intro; refine ⟨fun w1 hw1 => ?_, ?_⟩; (· (go_simp; rfl)); simp only [Act.put, sA, sB, sC]
   refine rV Later.pre 10 rfl rfl ?_; apply Exists.intro; refine ⟨fun w1 hw1 => ?_, ?_⟩; (· (go_simp; rfl)); simp only [Act.put, sA, sB, sC]
   refine rV Later.pre 11 rfl rfl ?_; apply Exists.intro; refine ⟨fun w1 hw1 => ?_, ?_⟩; (· (go_simp; rfl)); simp only [Act.put, sA, sB, sC]
   refine rV Later.pre 12 rfl rfl ?_; apply Exists.intro; refine ⟨fun w1 hw1 => ?_, ?_⟩; (· (go_simp; rfl)); simp only [Act.put, sA, sB, sC]
   refine rV Later.pre 13 rfl rfl ?_; apply Exists.intro; refine ⟨fun w1 hw1 => ?_, ?_⟩; (· (go_simp; rfl)); simp only [Act.put, sA, sB, sC]
   refine anyR_valG Later.pre 14 rfl (by kernel_rfl) (by kernel_rfl) (by kernel_rfl) (fun _ _ _ _ h => h) (by rfl) ?_; apply Exists.intro; refine ⟨fun w1 hw1 => ?_, ?_⟩; (· (go_simp; rfl)); simp only [Act.put, sA, sB, sC]
   refine anyR_valG Later.pre 15 rfl (by kernel_rfl) (by kernel_rfl) (by kernel_rfl) (fun _ _ _ _ h => h) (by rfl) ?_; apply Exists.intro; refine ⟨fun w1 hw1 => ?_, ?_⟩; (· (go_simp; rfl)); simp only [Act.put, sA, sB, sC]
   refine anyR_valG Later.pre 16 rfl (by kernel_rfl) (by kernel_rfl) (by kernel_rfl) (fun _ _ _ _ h => h) (by rfl) ?_; apply Exists.intro; refine ⟨fun w1 hw1 => ?_, ?_⟩; (· (go_simp; rfl)); simp only [Act.put, sA, sB, sC]
   refine anyR_valG Later.pre 17 rfl (by kernel_rfl) (by kernel_rfl) (by kernel_rfl) (fun _ _ _ _ h => h) (by rfl) ?_; apply Exists.intro; refine ⟨fun w1 hw1 => ?_, ?_⟩; (· (go_simp; rfl)); simp only [Act.put, sA, sB, sC]
   refine anyR_valG Later.pre 18 rfl (by kernel_rfl) (by kernel_rfl) (by kernel_rfl) (fun _ _ _ _ h => h) (by rfl) ?_; apply Exists.intro; refine ⟨fun w1 hw1 => ?_, ?_⟩; (· (go_simp; rfl)); simp only [Act.put, sA, sB, sC]
   refine anyR_valG Later.pre 19 rfl (by kernel_rfl) (by kernel_rfl) (by kernel_rfl) (fun _ _ _ _ h => h) (by rfl) ?_; apply Exists.intro; refine ⟨fun w1 hw1 => ?_, ?_⟩; (· (go_simp; rfl)); simp only [Act.put, sA, sB, sC]
   refine anyR_valG Later.pre 20 rfl (by kernel_rfl) (by kernel_rfl) (by kernel_rfl) (fun _ _ _ _ h => h) (by rfl) ?_; apply Exists.intro; refine ⟨fun w1 hw1 => ?_, ?_⟩; (· (go_simp; rfl)); simp only [Act.put, sA, sB, sC]
   refine anyR_valG Later.pre 21 rfl (by kernel_rfl) (by kernel_rfl) (by kernel_rfl) (fun _ _ _ _ h => h) (by rfl) ?_; apply Exists.intro; refine ⟨fun w1 hw1 => ?_, ?_⟩; (· (go_simp; rfl)); simp only [Act.put, sA, sB, sC]
   refine anyR_valG Later.pre 22 rfl (by kernel_rfl) (by kernel_rfl) (by kernel_rfl) (fun _ _ _ _ h => h) (by rfl) ?_; apply Exists.intro; refine ⟨fun w1 hw1 => ?_, ?_⟩; (· (go_simp; rfl)); simp only [Act.put, sA, sB, sC]
   refine anyR_valG Later.pre 23 rfl (by kernel_rfl) (by kernel_rfl) (by kernel_rfl) (fun _ _ _ _ h => h) (by rfl) ?_; apply Exists.intro; refine ⟨fun w1 hw1 => ?_, ?_⟩; (· (go_simp; rfl)); simp only [Act.put, sA, sB, sC]
   refine anyR_valG Later.pre 24 rfl (by kernel_rfl) (by kernel_rfl) (by kernel_rfl) (fun _ _ _ _ h => h) (by rfl) ?_; apply Exists.intro; refine ⟨fun w1 hw1 => ?_, ?_⟩; (· (go_simp; rfl)); simp only [Act.put, sA, sB, sC]
   refine anyR_valG Later.pre 25 rfl (by kernel_rfl) (by kernel_rfl) (by kernel_rfl) (fun _ _ _ _ h => h) (by rfl) ?_; apply Exists.intro; refine ⟨fun w1 hw1 => ?_, ?_⟩; (· (go_simp; rfl)); simp only [Act.put, sA, sB, sC]
   refine anyR_valG Later.pre 26 rfl (by kernel_rfl) (by kernel_rfl) (by kernel_rfl) (fun _ _ _ _ h => h) (by rfl) ?_; apply Exists.intro; refine ⟨fun w1 hw1 => ?_, ?_⟩; (· (go_simp; rfl)); simp only [Act.put, sA, sB, sC]
   refine anyR_valG Later.pre 27 rfl (by kernel_rfl) (by kernel_rfl) (by kernel_rfl) (fun _ _ _ _ h => h) (by rfl) ?_; apply Exists.intro; refine ⟨fun w1 hw1 => ?_, ?_⟩; (· (go_simp; rfl)); simp only [Act.put, sA, sB, sC]
   refine anyR_valG Later.pre 28 rfl (by kernel_rfl) (by kernel_rfl) (by kernel_rfl) (fun _ _ _ _ h => h) (by rfl) ?_; apply Exists.intro; refine ⟨fun w1 hw1 => ?_, ?_⟩; (· (go_simp; rfl)); simp only [Act.put, sA, sB, sC]
   refine rV Later.pre 29 rfl rfl ?_; apply Exists.intro; refine ⟨fun w1 hw1 => ?_, ?_⟩; (· (go_simp; rfl)); simp only [Act.put, sA, sB, sC]
   refine anyR_done (by kernel_rfl) (fun W8 hW8 => ?_)
   have hl8 := (hl.trans hW2).trans hW8
   clear q0 q1 q2 q3 q4 q5 q6 q7
   go_wp2_with fail
   go_roundw
   case rel => exact ⟨k + 1, by omega, by go_num, hl8⟩
   case measure => simp [intOf]; omega
  ·go_wp2_with fail
   go_ret
   exact ⟨rfl, hbr⟩
end Go.Proofs.YtghpakfjpdifaaaGreatDoor

/- Whether two datagrams are the same; the document's answer. -/
namespace Go.Proofs.YtghpakfjpdifaaaGreatDoor
open Go.RowKit Go.Shelf
set_option maxRecDepth 100000
set_option linter.unusedVariables false
set_option linter.unusedSimpArgs false

/-- Are two datagrams the same? -/
def smU (sp1 : Int) (dp1 : Int) (bare1 : Bool) (sp2 : Int) (dp2 : Int) (bare2 : Bool) (zd1 zd2 : List Int) : Bool := sp1 == sp2 && (dp1 == dp2 && (bare1 == bare2 && (decide (zd1 = zd2))))
set_option maxHeartbeats 4000000 in
theorem rsameUdp_any (sp1 : Int) (dp1 : Int) (bare1 : Bool) (sp2 : Int) (dp2 : Int) (bare2 : Bool) (sd1 sd2 : Value) (zd1 zd2 : List Int) (w : World) (hD1 : Mt.By zd1) (hD2 : Mt.By zd2) (hI1 : Rd w.heap.size w sd1 zd1) (hI2 : Rd w.heap.size w sd2 zd2) :
  Calls Tryz.prog 41 #[.agg #[.int .u16 sp1, .int .u16 dp1, .bool bare1, sd1], .agg #[.int .u16 sp2, .int .u16 dp2, .bool bare2, sd2]] w fun e w' => e = .returned (.bool (smU sp1 dp1 bare1 sp2 dp2 bare2 zd1 zd2)) ∧ Below w.heap.size w w' := by
 have hbox : Below w.heap.size w ((w.alloc (.cells #[.int .u16 sp1, .int .u16 dp1, .bool bare1, sd1] 57)).alloc (.cells #[.int .u16 sp2, .int .u16 dp2, .bool bare2, sd2] 57)) := ((Below.refl w.heap.size w).alloc (Nat.le_refl _) _).alloc (by simp) _
 have HA := hide (hI1.below hbox)
 have HB := hide (hI2.below hbox)
 obtain ⟨ad1, cd1, rfl, _, _⟩ := hI1.slice
 obtain ⟨ad2, cd2, rfl, _, _⟩ := hI2.slice
 have HS : Hid (smU sp1 dp1 bare1 sp2 dp2 bare2 zd1 zd2 = (sp1 == sp2 && (dp1 == dp2 && (bare1 == bare2 && (decide (zd1 = zd2)))))) := rfl
 generalize smU sp1 dp1 bare1 sp2 dp2 bare2 zd1 zd2 = r at *
 clear hI1 hI2
 have ca := conv_rd 24 9 5 Tryz.underlying24 Tryz.underlying5 Tryz.underlying9 HA.out
 have cb := conv_rd 24 9 5 Tryz.underlying24 Tryz.underlying5 Tryz.underlying9 HB.out
 have HE := hide (str_eq hD1 hD2)
 cases h0 : (sp1 == sp2)
 ·rw [h0] at HS
  go_enter Tryz.func41, Tryz.ntmps41
  go_wp2
  go_ret
  exact ⟨by rw [HS.out]; rfl, hbox⟩
 ·rw [h0] at HS
  cases h1 : (dp1 == dp2)
  ·rw [h1] at HS
   go_enter Tryz.func41, Tryz.ntmps41
   go_wp2
   go_ret
   exact ⟨by rw [HS.out]; rfl, hbox⟩
  ·rw [h1] at HS
   cases h2 : (bare1 == bare2)
   ·rw [h2] at HS
    go_enter Tryz.func41, Tryz.ntmps41
    go_wp2
    go_ret
    exact ⟨by rw [HS.out]; rfl, hbox⟩
   ·rw [h2] at HS
    simp only [Bool.true_and] at HS
    go_enter Tryz.func41, Tryz.ntmps41
    go_wp2
    go_ret
    exact ⟨by rw [HS.out, ← HE.out]; rfl, hbox⟩

end Go.Proofs.YtghpakfjpdifaaaGreatDoor

/- Layer 10: alike, where both tell the same. -/
namespace Go.Proofs.YtghpakfjpdifaaaGreatDoor
open Go.RowKit Go.Shelf
set_option maxRecDepth 100000
set_option linter.unusedVariables false
set_option linter.unusedSimpArgs false

/-- Two segments, datagrams, messages, frames tell the same. -/
def SmT (x z : List Int) : Prop := (wat z 0 = wat x 0 ∧ wat z 2 = wat x 2 ∧ wat4 z 4 = wat4 x 4 ∧ wat4 z 8 = wat4 x 8) ∧ (z[13]?.getD 0 = x[13]?.getD 0 ∧ wat z 14 = wat x 14 ∧ wat z 18 = wat x 18) ∧ opts (hop z) = opts (hop x) ∧ z.drop (thd z).toNat = x.drop (thd x).toNat ∧ z.length - (thd z).toNat = x.length - (thd x).toNat
def SmU (x z : List Int) : Prop := wat z 0 = wat x 0 ∧ wat z 2 = wat x 2 ∧ (wat z 6 == 0) = (wat x 6 == 0) ∧ z.drop 8 = x.drop 8 ∧ z.length - 8 = x.length - 8
def SmI (x z : List Int) : Prop := z[0]?.getD 0 = x[0]?.getD 0 ∧ z[1]?.getD 0 = x[1]?.getD 0 ∧ wat4 z 4 = wat4 x 4 ∧ z.drop 8 = x.drop 8 ∧ z.length - 8 = x.length - 8
def SmG (x z : List Int) : Prop := getAt2 z 6 = getAt2 x 6 ∧ bgz z = bgz x ∧ gsq (bgz x) z = gsq (bgz x) x ∧ gak (bgz x) z = gak (bgz x) x ∧ z.drop (ghd (bgz x)) = x.drop (ghd (bgz x)) ∧ z.length - ghd (bgz x) = x.length - ghd (bgz x)

set_option maxHeartbeats 8000000 in
theorem alike_tcp (tos1 id1 ttl1 tos2 id2 ttl2 src dst : Int) (keep1 keep2 : Bool) (so1 so2 : Value) (sd1 sd2 : Value) (zo1 zo2 x z : List Int) (w : World) (hIo1 : Rd w.heap.size w so1 zo1) (hIo2 : Rd w.heap.size w so2 zo2) (hBx : Mt.By x) (hBz : Mt.By z) (hIx : Rd w.heap.size w sd1 x) (hIz : Rd w.heap.size w sd2 z) (hlx : 12 + x.length ≤ 1099511627776) (hlz : 12 + z.length ≤ 1099511627776) (hsr : 0 ≤ src ∧ src ≤ 4294967295) (hds : 0 ≤ dst ∧ dst ≤ 4294967295) (hpx : pte 6 src dst x = 0) (hpz : pte 6 src dst z = 0) (hm : SmT x z) :
  Calls Tryz.prog 15 #[.agg #[.int .u8 tos1, .int .u16 id1, .bool keep1, .int .u8 ttl1, .int .u8 6, .int .u32 src, .int .u32 dst, so1, sd1], .agg #[.int .u8 tos2, .int .u16 id2, .bool keep2, .int .u8 ttl2, .int .u8 6, .int .u32 src, .int .u32 dst, so2, sd2]] w fun e w' => e = .returned (.bool true) ∧ Later w w' := by
 obtain ⟨ao1, co1, rfl, _, _⟩ := hIo1.slice
 obtain ⟨ao2, co2, rfl, _, _⟩ := hIo2.slice
 obtain ⟨ad1, cd1, rfl, _, _⟩ := hIx.slice
 obtain ⟨ad2, cd2, rfl, _, _⟩ := hIz.slice
 have hb0 : Later w ((w.alloc (.cells #[.int .u8 tos1, .int .u16 id1, .bool keep1, .int .u8 ttl1, .int .u8 6, .int .u32 src, .int .u32 dst, .slice ao1 zo1.length co1, .slice ad1 x.length cd1] 26)).alloc (.cells #[.int .u8 tos2, .int .u16 id2, .bool keep2, .int .u8 ttl2, .int .u8 6, .int .u32 src, .int .u32 dst, .slice ao2 zo2.length co2, .slice ad2 z.length cd2] 26)) := ((Below.refl _ _).alloc (Nat.le_refl _) _).alloc (by simp) _
 have p0 : ((w.alloc (.cells #[.int .u8 tos1, .int .u16 id1, .bool keep1, .int .u8 ttl1, .int .u8 6, .int .u32 src, .int .u32 dst, .slice ao1 zo1.length co1, .slice ad1 x.length cd1] 26)).alloc (.cells #[.int .u8 tos2, .int .u16 id2, .bool keep2, .int .u8 ttl2, .int .u8 6, .int .u32 src, .int .u32 dst, .slice ao2 zo2.length co2, .slice ad2 z.length cd2] 26)).heap[w.heap.size]? = some (.cells #[.int .u8 tos1, .int .u16 id1, .bool keep1, .int .u8 ttl1, .int .u8 6, .int .u32 src, .int .u32 dst, .slice ao1 zo1.length co1, .slice ad1 x.length cd1] 26) := (Below.heap_alloc _ _ _ (by simp)).trans (heap_alloc_new w _)
 have q0 : ((w.alloc (.cells #[.int .u8 tos1, .int .u16 id1, .bool keep1, .int .u8 ttl1, .int .u8 6, .int .u32 src, .int .u32 dst, .slice ao1 zo1.length co1, .slice ad1 x.length cd1] 26)).alloc (.cells #[.int .u8 tos2, .int .u16 id2, .bool keep2, .int .u8 ttl2, .int .u8 6, .int .u32 src, .int .u32 dst, .slice ao2 zo2.length co2, .slice ad2 z.length cd2] 26)).heap[w.heap.size + 1]? = some (.cells #[.int .u8 tos2, .int .u16 id2, .bool keep2, .int .u8 ttl2, .int .u8 6, .int .u32 src, .int .u32 dst, .slice ao2 zo2.length co2, .slice ad2 z.length cd2] 26) := by
  have := heap_alloc_new (w.alloc (.cells #[.int .u8 tos1, .int .u16 id1, .bool keep1, .int .u8 ttl1, .int .u8 6, .int .u32 src, .int .u32 dst, .slice ao1 zo1.length co1, .slice ad1 x.length cd1] 26)) (.cells #[.int .u8 tos2, .int .u16 id2, .bool keep2, .int .u8 ttl2, .int .u8 6, .int .u32 src, .int .u32 dst, .slice ao2 zo2.length co2, .slice ad2 z.length cd2] 26)
  rw [World.size_alloc] at this
  exact this
 have P0 := hide p0
 have Q0 := hide q0
 have HM := hide hm
 clear p0 q0 hm
 go_enter Tryz.func15, Tryz.ntmps15
 go_upto_region 1 with fail
 generalize (w.alloc _).alloc _ = W0 at *
 have kP := block_cell P0.out
 have kQ := block_cell Q0.out
 have hIx0 := (hIx.below hb0).mono hb0.size
 have hIz0 := (hIz.below hb0).mono hb0.size
 have HX := hide (rparseTcp_any tos1 id1 ttl1 6 src dst keep1 (.slice ao1 zo1.length co1) _ x W0 hBx hIx0 hlx hsr hds)
 have HZ := hide (fun v (h : Later W0 v) => rparseTcp_any tos2 id2 ttl2 6 src dst keep2 (.slice ao2 zo2.length co2) _ z v hBz ((hIz0.below h).mono h.size) hlz hsr hds)
 have HPX := hide hpx
 have HPZ := hide hpz
 clear hpx hpz
 go_wp2_with fail
 refine HX.out.mono ?_
 rintro e w1 ⟨hb1, ⟨hf, _⟩ | ⟨hf, os, aO1, cO1, am1, cm1, hos, rfl, hO1, hD1⟩⟩
 ·exact absurd HPX.out hf
 have l1 : Later W0 w1 := hb1
 obtain ⟨⟨m0, m2, m4, m8⟩, ⟨m13, m14, m18⟩, mo, md, mn⟩ := HM.out
 rw [m0, m2, m4, m8, m13, m14, m18, mn, md] at HZ
 rw [hos] at mo
 have MO := hide mo
 clear m0 m2 m4 m8 m13 m14 m18 mo md mn
 generalize wat x 0 = sp at *
 generalize wat x 2 = dp at *
 generalize wat4 x 4 = sq at *
 generalize wat4 x 8 = ak at *
 generalize x[13]?.getD 0 = fl at *
 generalize wat x 14 = wn at *
 generalize wat x 18 = ur at *
 generalize x.drop (thd x).toNat = zm at *
 generalize x.length - (thd x).toNat = n1 at *
 have K1 := hide (heap_alloc_new w1 (.cells #[.int .u16 sp, .int .u16 dp, .int .u32 sq, .int .u32 ak, .int .u8 fl, .int .u16 wn, .int .u16 ur, .slice aO1 os.length cO1, .slice am1 n1 cm1] 60))
 have l2 := later_alloc' w1 (.cells #[.int .u16 sp, .int .u16 dp, .int .u32 sq, .int .u32 ak, .int .u8 fl, .int .u16 wn, .int .u16 ur, .slice aO1 os.length cO1, .slice am1 n1 cm1] 60)
 have qQ := block_cell (((l1.trans l2).block (w.heap.size + 1) (bl9 Q0.out)).trans Q0.out)
 clear kP kQ HX hf hb1
 go_upto_region 6 with fail
 generalize w1.alloc _ = w2 at *
 go_wp2_with fail
 refine (HZ.out w2 (l1.trans l2)).mono ?_
 rintro e w3 ⟨hb3, ⟨hf, _⟩ | ⟨hf, os3, aO3, cO3, am3, cm3, hos3, rfl, hO3, hD3⟩⟩
 ·exact absurd HPZ.out hf
 have l3 : Later w2 w3 := hb3
 rw [MO.out] at hos3
 simp at hos3
 subst hos3
 have K3 := hide (heap_alloc_new w3 (.cells #[.int .u16 sp, .int .u16 dp, .int .u32 sq, .int .u32 ak, .int .u8 fl, .int .u16 wn, .int .u16 ur, .slice aO3 os.length cO3, .slice am3 n1 cm3] 60))
 have l4 := later_alloc' w3 (.cells #[.int .u16 sp, .int .u16 dp, .int .u32 sq, .int .u32 ak, .int .u8 fl, .int .u16 wn, .int .u16 ur, .slice aO3 os.length cO3, .slice am3 n1 cm3] 60)
 clear qQ HZ hf hb3
 go_upto_region 7 with fail
 generalize w3.alloc _ = w4 at *
 have k1 := block_cell (((l3.trans l4).block w1.heap.size (bl9 K1.out)).trans K1.out)
 have k3 := block_cell K3.out
 have HS := hide (rsameTcp_yes sp dp sq ak fl wn ur (.slice aO1 os.length cO1) (.slice am1 n1 cm1) (.slice aO3 os.length cO3) (.slice am3 n1 cm3) os zm w4 ((hO1.later (l2.trans (l3.trans l4))).rd) ((hO3.later l4).rd) ((hD1.later (l2.trans (l3.trans l4))).rd) ((hD3.later l4).rd))
 go_wp2_with fail
 refine HS.out.mono ?_
 rintro e w5 ⟨rfl, l5⟩
 have L5 : Later w4 w5 := l5
 go_wp2_with fail
 go_ret
 exact ⟨rfl, hb0.trans (l1.trans (l2.trans (l3.trans (l4.trans L5))))⟩

set_option maxHeartbeats 8000000 in
theorem alike_udp (tos1 id1 ttl1 tos2 id2 ttl2 src dst : Int) (keep1 keep2 : Bool) (so1 so2 : Value) (sd1 sd2 : Value) (zo1 zo2 x z : List Int) (w : World) (hIo1 : Rd w.heap.size w so1 zo1) (hIo2 : Rd w.heap.size w so2 zo2) (hBx : Mt.By x) (hBz : Mt.By z) (hIx : Rd w.heap.size w sd1 x) (hIz : Rd w.heap.size w sd2 z) (hlx : 12 + x.length ≤ 1099511627776) (hlz : 12 + z.length ≤ 1099511627776) (hsr : 0 ≤ src ∧ src ≤ 4294967295) (hds : 0 ≤ dst ∧ dst ≤ 4294967295) (hpx : pue 17 src dst x = 0) (hpz : pue 17 src dst z = 0) (hm : SmU x z) :
  Calls Tryz.prog 15 #[.agg #[.int .u8 tos1, .int .u16 id1, .bool keep1, .int .u8 ttl1, .int .u8 17, .int .u32 src, .int .u32 dst, so1, sd1], .agg #[.int .u8 tos2, .int .u16 id2, .bool keep2, .int .u8 ttl2, .int .u8 17, .int .u32 src, .int .u32 dst, so2, sd2]] w fun e w' => e = .returned (.bool true) ∧ Later w w' := by
 obtain ⟨ao1, co1, rfl, _, _⟩ := hIo1.slice
 obtain ⟨ao2, co2, rfl, _, _⟩ := hIo2.slice
 obtain ⟨ad1, cd1, rfl, _, _⟩ := hIx.slice
 obtain ⟨ad2, cd2, rfl, _, _⟩ := hIz.slice
 have hb0 : Later w ((w.alloc (.cells #[.int .u8 tos1, .int .u16 id1, .bool keep1, .int .u8 ttl1, .int .u8 17, .int .u32 src, .int .u32 dst, .slice ao1 zo1.length co1, .slice ad1 x.length cd1] 26)).alloc (.cells #[.int .u8 tos2, .int .u16 id2, .bool keep2, .int .u8 ttl2, .int .u8 17, .int .u32 src, .int .u32 dst, .slice ao2 zo2.length co2, .slice ad2 z.length cd2] 26)) := ((Below.refl _ _).alloc (Nat.le_refl _) _).alloc (by simp) _
 have p0 : ((w.alloc (.cells #[.int .u8 tos1, .int .u16 id1, .bool keep1, .int .u8 ttl1, .int .u8 17, .int .u32 src, .int .u32 dst, .slice ao1 zo1.length co1, .slice ad1 x.length cd1] 26)).alloc (.cells #[.int .u8 tos2, .int .u16 id2, .bool keep2, .int .u8 ttl2, .int .u8 17, .int .u32 src, .int .u32 dst, .slice ao2 zo2.length co2, .slice ad2 z.length cd2] 26)).heap[w.heap.size]? = some (.cells #[.int .u8 tos1, .int .u16 id1, .bool keep1, .int .u8 ttl1, .int .u8 17, .int .u32 src, .int .u32 dst, .slice ao1 zo1.length co1, .slice ad1 x.length cd1] 26) := (Below.heap_alloc _ _ _ (by simp)).trans (heap_alloc_new w _)
 have q0 : ((w.alloc (.cells #[.int .u8 tos1, .int .u16 id1, .bool keep1, .int .u8 ttl1, .int .u8 17, .int .u32 src, .int .u32 dst, .slice ao1 zo1.length co1, .slice ad1 x.length cd1] 26)).alloc (.cells #[.int .u8 tos2, .int .u16 id2, .bool keep2, .int .u8 ttl2, .int .u8 17, .int .u32 src, .int .u32 dst, .slice ao2 zo2.length co2, .slice ad2 z.length cd2] 26)).heap[w.heap.size + 1]? = some (.cells #[.int .u8 tos2, .int .u16 id2, .bool keep2, .int .u8 ttl2, .int .u8 17, .int .u32 src, .int .u32 dst, .slice ao2 zo2.length co2, .slice ad2 z.length cd2] 26) := by
  have := heap_alloc_new (w.alloc (.cells #[.int .u8 tos1, .int .u16 id1, .bool keep1, .int .u8 ttl1, .int .u8 17, .int .u32 src, .int .u32 dst, .slice ao1 zo1.length co1, .slice ad1 x.length cd1] 26)) (.cells #[.int .u8 tos2, .int .u16 id2, .bool keep2, .int .u8 ttl2, .int .u8 17, .int .u32 src, .int .u32 dst, .slice ao2 zo2.length co2, .slice ad2 z.length cd2] 26)
  rw [World.size_alloc] at this
  exact this
 have P0 := hide p0
 have Q0 := hide q0
 have HM := hide hm
 clear p0 q0 hm
 go_enter Tryz.func15, Tryz.ntmps15
 go_upto_region 1 with fail
 generalize (w.alloc _).alloc _ = W0 at *
 have kP := block_cell P0.out
 have kQ := block_cell Q0.out
 have hIx0 := (hIx.below hb0).mono hb0.size
 have hIz0 := (hIz.below hb0).mono hb0.size
 have HX := hide (rparseUdp_any tos1 id1 ttl1 17 src dst keep1 (.slice ao1 zo1.length co1) _ x W0 hBx hIx0 (by omega) hsr hds)
 have HZ := hide (fun v (h : Later W0 v) => rparseUdp_any tos2 id2 ttl2 17 src dst keep2 (.slice ao2 zo2.length co2) _ z v hBz ((hIz0.below h).mono h.size) (by omega) hsr hds)
 have HPX := hide hpx
 have HPZ := hide hpz
 clear hpx hpz
 go_wp2_with fail
 refine HX.out.mono ?_
 rintro e w1 ⟨hb1, ⟨hf, _⟩ | ⟨hf, am1, cm1, rfl, hD1⟩⟩
 ·exact absurd HPX.out hf
 have l1 : Later W0 w1 := hb1
 obtain ⟨m0, m2, m6, md, mn⟩ := HM.out
 rw [m0, m2, m6, mn, md] at HZ
 have hBm : Mt.By (x.drop 8) := hBx.drop 8
 clear m0 m2 m6 md mn
 generalize wat x 0 = sp at *
 generalize wat x 2 = dp at *
 generalize (wat x 6 == 0) = br at *
 generalize x.drop 8 = zm at *
 generalize x.length - 8 = n1 at *
 have K1 := hide (heap_alloc_new w1 (.cells #[.int .u16 sp, .int .u16 dp, .bool br, .slice am1 n1 cm1] 57))
 have l2 := later_alloc' w1 (.cells #[.int .u16 sp, .int .u16 dp, .bool br, .slice am1 n1 cm1] 57)
 have qQ := block_cell (((l1.trans l2).block (w.heap.size + 1) (bl9 Q0.out)).trans Q0.out)
 clear kP kQ HX hf hb1
 go_upto_region 10 with fail
 generalize w1.alloc _ = w2 at *
 go_wp2_with fail
 refine (HZ.out w2 (l1.trans l2)).mono ?_
 rintro e w3 ⟨hb3, ⟨hf, _⟩ | ⟨hf, am3, cm3, rfl, hD3⟩⟩
 ·exact absurd HPZ.out hf
 have l3 : Later w2 w3 := hb3
 have K3 := hide (heap_alloc_new w3 (.cells #[.int .u16 sp, .int .u16 dp, .bool br, .slice am3 n1 cm3] 57))
 have l4 := later_alloc' w3 (.cells #[.int .u16 sp, .int .u16 dp, .bool br, .slice am3 n1 cm3] 57)
 clear qQ HZ hf hb3
 go_upto_region 11 with fail
 generalize w3.alloc _ = w4 at *
 have k1 := block_cell (((l3.trans l4).block w1.heap.size (bl9 K1.out)).trans K1.out)
 have k3 := block_cell K3.out
 have HS := hide (rsameUdp_any sp dp br sp dp br (.slice am1 n1 cm1) (.slice am3 n1 cm3) zm zm w4 hBm hBm ((hD1.later (l2.trans (l3.trans l4))).rd) ((hD3.later l4).rd))
 rw [show smU sp dp br sp dp br zm zm = true from by simp [smU]] at HS
 go_wp2_with fail
 refine HS.out.mono ?_
 rintro e w5 ⟨rfl, l5⟩
 have L5 : Later w4 w5 := l5
 go_wp2_with fail
 go_ret
 exact ⟨rfl, hb0.trans (l1.trans (l2.trans (l3.trans (l4.trans L5))))⟩

set_option maxHeartbeats 8000000 in
theorem alike_icmp (tos1 id1 ttl1 tos2 id2 ttl2 src dst : Int) (keep1 keep2 : Bool) (so1 so2 : Value) (sd1 sd2 : Value) (zo1 zo2 x z : List Int) (w : World) (hIo1 : Rd w.heap.size w so1 zo1) (hIo2 : Rd w.heap.size w so2 zo2) (hBx : Mt.By x) (hBz : Mt.By z) (hIx : Rd w.heap.size w sd1 x) (hIz : Rd w.heap.size w sd2 z) (hlx : 12 + x.length ≤ 1099511627776) (hlz : 12 + z.length ≤ 1099511627776) (hsr : 0 ≤ src ∧ src ≤ 4294967295) (hds : 0 ≤ dst ∧ dst ≤ 4294967295) (hpx : pie 1 x = 0) (hpz : pie 1 z = 0) (hm : SmI x z) :
  Calls Tryz.prog 15 #[.agg #[.int .u8 tos1, .int .u16 id1, .bool keep1, .int .u8 ttl1, .int .u8 1, .int .u32 src, .int .u32 dst, so1, sd1], .agg #[.int .u8 tos2, .int .u16 id2, .bool keep2, .int .u8 ttl2, .int .u8 1, .int .u32 src, .int .u32 dst, so2, sd2]] w fun e w' => e = .returned (.bool true) ∧ Later w w' := by
 obtain ⟨ao1, co1, rfl, _, _⟩ := hIo1.slice
 obtain ⟨ao2, co2, rfl, _, _⟩ := hIo2.slice
 obtain ⟨ad1, cd1, rfl, _, _⟩ := hIx.slice
 obtain ⟨ad2, cd2, rfl, _, _⟩ := hIz.slice
 have hb0 : Later w ((w.alloc (.cells #[.int .u8 tos1, .int .u16 id1, .bool keep1, .int .u8 ttl1, .int .u8 1, .int .u32 src, .int .u32 dst, .slice ao1 zo1.length co1, .slice ad1 x.length cd1] 26)).alloc (.cells #[.int .u8 tos2, .int .u16 id2, .bool keep2, .int .u8 ttl2, .int .u8 1, .int .u32 src, .int .u32 dst, .slice ao2 zo2.length co2, .slice ad2 z.length cd2] 26)) := ((Below.refl _ _).alloc (Nat.le_refl _) _).alloc (by simp) _
 have p0 : ((w.alloc (.cells #[.int .u8 tos1, .int .u16 id1, .bool keep1, .int .u8 ttl1, .int .u8 1, .int .u32 src, .int .u32 dst, .slice ao1 zo1.length co1, .slice ad1 x.length cd1] 26)).alloc (.cells #[.int .u8 tos2, .int .u16 id2, .bool keep2, .int .u8 ttl2, .int .u8 1, .int .u32 src, .int .u32 dst, .slice ao2 zo2.length co2, .slice ad2 z.length cd2] 26)).heap[w.heap.size]? = some (.cells #[.int .u8 tos1, .int .u16 id1, .bool keep1, .int .u8 ttl1, .int .u8 1, .int .u32 src, .int .u32 dst, .slice ao1 zo1.length co1, .slice ad1 x.length cd1] 26) := (Below.heap_alloc _ _ _ (by simp)).trans (heap_alloc_new w _)
 have q0 : ((w.alloc (.cells #[.int .u8 tos1, .int .u16 id1, .bool keep1, .int .u8 ttl1, .int .u8 1, .int .u32 src, .int .u32 dst, .slice ao1 zo1.length co1, .slice ad1 x.length cd1] 26)).alloc (.cells #[.int .u8 tos2, .int .u16 id2, .bool keep2, .int .u8 ttl2, .int .u8 1, .int .u32 src, .int .u32 dst, .slice ao2 zo2.length co2, .slice ad2 z.length cd2] 26)).heap[w.heap.size + 1]? = some (.cells #[.int .u8 tos2, .int .u16 id2, .bool keep2, .int .u8 ttl2, .int .u8 1, .int .u32 src, .int .u32 dst, .slice ao2 zo2.length co2, .slice ad2 z.length cd2] 26) := by
  have := heap_alloc_new (w.alloc (.cells #[.int .u8 tos1, .int .u16 id1, .bool keep1, .int .u8 ttl1, .int .u8 1, .int .u32 src, .int .u32 dst, .slice ao1 zo1.length co1, .slice ad1 x.length cd1] 26)) (.cells #[.int .u8 tos2, .int .u16 id2, .bool keep2, .int .u8 ttl2, .int .u8 1, .int .u32 src, .int .u32 dst, .slice ao2 zo2.length co2, .slice ad2 z.length cd2] 26)
  rw [World.size_alloc] at this
  exact this
 have P0 := hide p0
 have Q0 := hide q0
 have HM := hide hm
 clear p0 q0 hm
 go_enter Tryz.func15, Tryz.ntmps15
 go_upto_region 1 with fail
 generalize (w.alloc _).alloc _ = W0 at *
 have kP := block_cell P0.out
 have kQ := block_cell Q0.out
 have hIx0 := (hIx.below hb0).mono hb0.size
 have hIz0 := (hIz.below hb0).mono hb0.size
 have HX := hide (rparseIcmp_any tos1 id1 ttl1 1 src dst keep1 (.slice ao1 zo1.length co1) _ x W0 hBx hIx0 (by omega))
 have HZ := hide (fun v (h : Later W0 v) => rparseIcmp_any tos2 id2 ttl2 1 src dst keep2 (.slice ao2 zo2.length co2) _ z v hBz ((hIz0.below h).mono h.size) (by omega))
 have HPX := hide hpx
 have HPZ := hide hpz
 clear hpx hpz
 go_wp2_with fail
 refine HX.out.mono ?_
 rintro e w1 ⟨hb1, ⟨hf, _⟩ | ⟨hf, am1, cm1, rfl, hD1⟩⟩
 ·exact absurd HPX.out hf
 have l1 : Later W0 w1 := hb1
 obtain ⟨m0, m1, m4, md, mn⟩ := HM.out
 rw [m0, m1, m4, mn, md] at HZ
 have hBm : Mt.By (x.drop 8) := hBx.drop 8
 clear m0 m1 m4 md mn
 generalize x[0]?.getD 0 = ty at *
 generalize x[1]?.getD 0 = cde at *
 generalize wat4 x 4 = rest at *
 generalize x.drop 8 = zm at *
 generalize x.length - 8 = n1 at *
 have K1 := hide (heap_alloc_new w1 (.cells #[.int .u8 ty, .int .u8 cde, .int .u32 rest, .slice am1 n1 cm1] 42))
 have l2 := later_alloc' w1 (.cells #[.int .u8 ty, .int .u8 cde, .int .u32 rest, .slice am1 n1 cm1] 42)
 have qQ := block_cell (((l1.trans l2).block (w.heap.size + 1) (bl9 Q0.out)).trans Q0.out)
 clear kP kQ HX hf hb1
 go_upto_region 14 with fail
 generalize w1.alloc _ = w2 at *
 go_wp2_with fail
 refine (HZ.out w2 (l1.trans l2)).mono ?_
 rintro e w3 ⟨hb3, ⟨hf, _⟩ | ⟨hf, am3, cm3, rfl, hD3⟩⟩
 ·exact absurd HPZ.out hf
 have l3 : Later w2 w3 := hb3
 have K3 := hide (heap_alloc_new w3 (.cells #[.int .u8 ty, .int .u8 cde, .int .u32 rest, .slice am3 n1 cm3] 42))
 have l4 := later_alloc' w3 (.cells #[.int .u8 ty, .int .u8 cde, .int .u32 rest, .slice am3 n1 cm3] 42)
 clear qQ HZ hf hb3
 go_upto_region 15 with fail
 generalize w3.alloc _ = w4 at *
 have k1 := block_cell (((l3.trans l4).block w1.heap.size (bl9 K1.out)).trans K1.out)
 have k3 := block_cell K3.out
 have HS := hide (rsameIcmp_any ty cde rest ty cde rest (.slice am1 n1 cm1) (.slice am3 n1 cm3) zm zm w4 hBm hBm ((hD1.later (l2.trans (l3.trans l4))).rd) ((hD3.later l4).rd))
 rw [show smI ty cde rest ty cde rest zm zm = true from by simp [smI]] at HS
 go_wp2_with fail
 refine HS.out.mono ?_
 rintro e w5 ⟨rfl, l5⟩
 have L5 : Later w4 w5 := l5
 go_wp2_with fail
 go_ret
 exact ⟨rfl, hb0.trans (l1.trans (l2.trans (l3.trans (l4.trans L5))))⟩

set_option maxHeartbeats 8000000 in
theorem alike_gre (tos1 id1 ttl1 tos2 id2 ttl2 src dst : Int) (keep1 keep2 : Bool) (so1 so2 : Value) (sd1 sd2 : Value) (zo1 zo2 x z : List Int) (w : World) (hIo1 : Rd w.heap.size w so1 zo1) (hIo2 : Rd w.heap.size w so2 zo2) (hBx : Mt.By x) (hBz : Mt.By z) (hIx : Rd w.heap.size w sd1 x) (hIz : Rd w.heap.size w sd2 z) (hlx : 12 + x.length ≤ 1099511627776) (hlz : 12 + z.length ≤ 1099511627776) (hsr : 0 ≤ src ∧ src ≤ 4294967295) (hds : 0 ≤ dst ∧ dst ≤ 4294967295) (hpx : pge 47 x = 0) (hpz : pge 47 z = 0) (hm : SmG x z) :
  Calls Tryz.prog 15 #[.agg #[.int .u8 tos1, .int .u16 id1, .bool keep1, .int .u8 ttl1, .int .u8 47, .int .u32 src, .int .u32 dst, so1, sd1], .agg #[.int .u8 tos2, .int .u16 id2, .bool keep2, .int .u8 ttl2, .int .u8 47, .int .u32 src, .int .u32 dst, so2, sd2]] w fun e w' => e = .returned (.bool true) ∧ Later w w' := by
 obtain ⟨ao1, co1, rfl, _, _⟩ := hIo1.slice
 obtain ⟨ao2, co2, rfl, _, _⟩ := hIo2.slice
 obtain ⟨ad1, cd1, rfl, _, _⟩ := hIx.slice
 obtain ⟨ad2, cd2, rfl, _, _⟩ := hIz.slice
 have hb0 : Later w ((w.alloc (.cells #[.int .u8 tos1, .int .u16 id1, .bool keep1, .int .u8 ttl1, .int .u8 47, .int .u32 src, .int .u32 dst, .slice ao1 zo1.length co1, .slice ad1 x.length cd1] 26)).alloc (.cells #[.int .u8 tos2, .int .u16 id2, .bool keep2, .int .u8 ttl2, .int .u8 47, .int .u32 src, .int .u32 dst, .slice ao2 zo2.length co2, .slice ad2 z.length cd2] 26)) := ((Below.refl _ _).alloc (Nat.le_refl _) _).alloc (by simp) _
 have p0 : ((w.alloc (.cells #[.int .u8 tos1, .int .u16 id1, .bool keep1, .int .u8 ttl1, .int .u8 47, .int .u32 src, .int .u32 dst, .slice ao1 zo1.length co1, .slice ad1 x.length cd1] 26)).alloc (.cells #[.int .u8 tos2, .int .u16 id2, .bool keep2, .int .u8 ttl2, .int .u8 47, .int .u32 src, .int .u32 dst, .slice ao2 zo2.length co2, .slice ad2 z.length cd2] 26)).heap[w.heap.size]? = some (.cells #[.int .u8 tos1, .int .u16 id1, .bool keep1, .int .u8 ttl1, .int .u8 47, .int .u32 src, .int .u32 dst, .slice ao1 zo1.length co1, .slice ad1 x.length cd1] 26) := (Below.heap_alloc _ _ _ (by simp)).trans (heap_alloc_new w _)
 have q0 : ((w.alloc (.cells #[.int .u8 tos1, .int .u16 id1, .bool keep1, .int .u8 ttl1, .int .u8 47, .int .u32 src, .int .u32 dst, .slice ao1 zo1.length co1, .slice ad1 x.length cd1] 26)).alloc (.cells #[.int .u8 tos2, .int .u16 id2, .bool keep2, .int .u8 ttl2, .int .u8 47, .int .u32 src, .int .u32 dst, .slice ao2 zo2.length co2, .slice ad2 z.length cd2] 26)).heap[w.heap.size + 1]? = some (.cells #[.int .u8 tos2, .int .u16 id2, .bool keep2, .int .u8 ttl2, .int .u8 47, .int .u32 src, .int .u32 dst, .slice ao2 zo2.length co2, .slice ad2 z.length cd2] 26) := by
  have := heap_alloc_new (w.alloc (.cells #[.int .u8 tos1, .int .u16 id1, .bool keep1, .int .u8 ttl1, .int .u8 47, .int .u32 src, .int .u32 dst, .slice ao1 zo1.length co1, .slice ad1 x.length cd1] 26)) (.cells #[.int .u8 tos2, .int .u16 id2, .bool keep2, .int .u8 ttl2, .int .u8 47, .int .u32 src, .int .u32 dst, .slice ao2 zo2.length co2, .slice ad2 z.length cd2] 26)
  rw [World.size_alloc] at this
  exact this
 have P0 := hide p0
 have Q0 := hide q0
 have HM := hide hm
 clear p0 q0 hm
 go_enter Tryz.func15, Tryz.ntmps15
 go_upto_region 1 with fail
 generalize (w.alloc _).alloc _ = W0 at *
 have kP := block_cell P0.out
 have kQ := block_cell Q0.out
 have hIx0 := (hIx.below hb0).mono hb0.size
 have hIz0 := (hIz.below hb0).mono hb0.size
 have HX := hide (rparseGre_any tos1 id1 ttl1 47 src dst keep1 (.slice ao1 zo1.length co1) _ x W0 hBx hIx0 (by omega))
 have HZ := hide (fun v (h : Later W0 v) => rparseGre_any tos2 id2 ttl2 47 src dst keep2 (.slice ao2 zo2.length co2) _ z v hBz ((hIz0.below h).mono h.size) (by omega))
 have HPX := hide hpx
 have HPZ := hide hpz
 clear hpx hpz
 go_wp2_with fail
 refine HX.out.mono ?_
 rintro e w1 ⟨hb1, ⟨hf, _⟩ | ⟨hf, am1, cm1, rfl, hD1⟩⟩
 ·exact absurd HPX.out hf
 have l1 : Later W0 w1 := hb1
 obtain ⟨m6, mb, mq, mk, md, mn⟩ := HM.out
 rw [m6, mb, mq, mk, mn, md] at HZ
 have hBm : Mt.By (x.drop (ghd (bgz x))) := hBx.drop _
 clear m6 mb mq mk md mn
 generalize getAt2 x 6 = cl at *
 generalize ghs (bgz x) = hs at *
 generalize gha (bgz x) = ha at *
 generalize gsq (bgz x) x = sq at *
 generalize gak (bgz x) x = ak at *
 generalize x.drop (ghd (bgz x)) = zm at *
 generalize x.length - ghd (bgz x) = n1 at *
 have K1 := hide (heap_alloc_new w1 (.cells #[.int .u16 cl, .bool hs, .bool ha, .int .u32 sq, .int .u32 ak, .slice am1 n1 cm1] 68))
 have l2 := later_alloc' w1 (.cells #[.int .u16 cl, .bool hs, .bool ha, .int .u32 sq, .int .u32 ak, .slice am1 n1 cm1] 68)
 have qQ := block_cell (((l1.trans l2).block (w.heap.size + 1) (bl9 Q0.out)).trans Q0.out)
 clear kP kQ HX hf hb1
 go_upto_region 17 with fail
 generalize w1.alloc _ = w2 at *
 go_wp2_with fail
 refine (HZ.out w2 (l1.trans l2)).mono ?_
 rintro e w3 ⟨hb3, ⟨hf, _⟩ | ⟨hf, am3, cm3, rfl, hD3⟩⟩
 ·exact absurd HPZ.out hf
 have l3 : Later w2 w3 := hb3
 have K3 := hide (heap_alloc_new w3 (.cells #[.int .u16 cl, .bool hs, .bool ha, .int .u32 sq, .int .u32 ak, .slice am3 n1 cm3] 68))
 have l4 := later_alloc' w3 (.cells #[.int .u16 cl, .bool hs, .bool ha, .int .u32 sq, .int .u32 ak, .slice am3 n1 cm3] 68)
 clear qQ HZ hf hb3
 go_upto_region 18 with fail
 generalize w3.alloc _ = w4 at *
 have k1 := block_cell (((l3.trans l4).block w1.heap.size (bl9 K1.out)).trans K1.out)
 have k3 := block_cell K3.out
 have HS := hide (rsameGre_any cl sq ak cl sq ak hs ha hs ha (.slice am1 n1 cm1) (.slice am3 n1 cm3) zm zm w4 hBm hBm ((hD1.later (l2.trans (l3.trans l4))).rd) ((hD3.later l4).rd))
 rw [show smG cl hs ha sq ak cl hs ha sq ak zm zm = true from by simp [smG]] at HS
 go_wp2_with fail
 refine HS.out.mono ?_
 rintro e w5 ⟨rfl, l5⟩
 have L5 : Later w4 w5 := l5
 go_wp2_with fail
 go_ret
 exact ⟨rfl, hb0.trans (l1.trans (l2.trans (l3.trans (l4.trans L5))))⟩

end Go.Proofs.YtghpakfjpdifaaaGreatDoor

/- Layer 10: what is rewritten tells what it told, but for the tuple. -/
namespace Go.Proofs.YtghpakfjpdifaaaGreatDoor
open Go.RowKit Go.Shelf
set_option maxRecDepth 100000
set_option linter.unusedVariables false
set_option linter.unusedSimpArgs false

theorem gsq_same {n : Nat} {x z : List Int} (hl : z.length = x.length) (h : ∀ j, 8 ≤ j → z[j]? = x[j]?) : gsq n z = gsq n x ∧ gak n z = gak n x := by
 have e : ∀ p : Int, 8 ≤ p → getAt4 z p = getAt4 x p := fun p hp => by
  unfold getAt4
  rw [hl]
  split
  ·exact wat4_same (fun j h1 h2 => h j (by omega))
  ·rfl
 unfold gsq gak
 rw [e 8 (by omega), e 12 (by omega)]
 exact ⟨rfl, rfl⟩
/-- Two packets' data of a protocol tell the same. -/
def SmA (pr : Int) (x z : List Int) : Prop := (pr = 6 ∧ SmT x z) ∨ (pr = 17 ∧ SmU x z) ∨ (pr = 1 ∧ SmI x z) ∨ (pr = 47 ∧ SmG x z)
/-- Data that differ in what Rewrite changes alone. -/
def Off (pr : Int) (x y : List Int) : Prop := y.length = x.length ∧ ((pr = 6 → ∀ j, 4 ≤ j → j ≠ 16 → j ≠ 17 → y[j]? = x[j]?) ∧ (pr = 17 → (∀ j, 4 ≤ j → j ≠ 6 → j ≠ 7 → y[j]? = x[j]?) ∧ (wat y 6 == 0) = (wat x 6 == 0)) ∧ (pr = 1 → ∀ j, j < 2 ∨ 6 ≤ j → y[j]? = x[j]?) ∧ (pr = 47 → ∀ j, j ≠ 6 → j ≠ 7 → y[j]? = x[j]?))
theorem Off.refl (pr : Int) (x : List Int) : Off pr x x := ⟨rfl, fun _ _ _ _ _ => rfl, fun _ => ⟨fun _ _ _ _ => rfl, rfl⟩, fun _ _ _ => rfl, fun _ _ _ _ => rfl⟩
theorem Off.rw {pr src dst : Int} {x : List Int} (s d a b : Int) (ho : ofe pr src dst x = 0) (hB : Mt.By x) : Off pr x (rwD pr s d a b x) := by
 have h8 : pr = 17 → 8 ≤ x.length := fun e => by
  subst e
  unfold ofe at ho
  rw [if_neg (by omega), if_pos rfl] at ho
  exact (rwU_pue (s := 0) (d := 0) (a := 0) (b := 0) hB ho (by omega) (by omega) (by omega) (by omega)).2
 refine ⟨rwD_length .., fun e j h1 h2 h3 => ?_, fun e => ⟨fun j h1 h2 h3 => ?_, ?_⟩, fun e j h1 => ?_, fun e j h1 h2 => ?_⟩
 ·subst e; unfold rwD; rw [if_pos rfl]; exact rwT_other _ _ _ _ _ _ h1 h2 h3
 ·subst e; unfold rwD; rw [if_neg (by omega), if_pos rfl]; exact rwU_other _ _ _ _ _ _ h1 h2 h3
 ·have := h8 e; subst e; unfold rwD; rw [if_neg (by omega), if_pos rfl]; exact rwU_w6 _ _ _ _ _ this
 ·subst e; unfold rwD; rw [if_neg (by omega), if_neg (by omega), if_pos rfl]; exact rwI_other _ _ _ h1
 ·subst e; unfold rwD; rw [if_neg (by omega), if_neg (by omega), if_neg (by omega)]; exact Mt.put2_other _ _ _ _ h1 h2
theorem alike_any (tos1 id1 ttl1 tos2 id2 ttl2 pr src dst : Int) (keep1 keep2 : Bool) (so1 so2 sd1 sd2 : Value) (zo1 zo2 x z : List Int) (w : World) (hIo1 : Rd w.heap.size w so1 zo1) (hIo2 : Rd w.heap.size w so2 zo2) (hBx : Mt.By x) (hBz : Mt.By z) (hIx : Rd w.heap.size w sd1 x) (hIz : Rd w.heap.size w sd2 z) (hlx : 12 + x.length ≤ 1099511627776) (hlz : 12 + z.length ≤ 1099511627776) (hsr : 0 ≤ src ∧ src ≤ 4294967295) (hds : 0 ≤ dst ∧ dst ≤ 4294967295) (hox : ofe pr src dst x = 0) (hoz : ofe pr src dst z = 0) (hm : SmA pr x z) :
  Calls Tryz.prog 15 #[.agg #[.int .u8 tos1, .int .u16 id1, .bool keep1, .int .u8 ttl1, .int .u8 pr, .int .u32 src, .int .u32 dst, so1, sd1], .agg #[.int .u8 tos2, .int .u16 id2, .bool keep2, .int .u8 ttl2, .int .u8 pr, .int .u32 src, .int .u32 dst, so2, sd2]] w fun e w' => e = .returned (.bool true) ∧ Later w w' := by
 rcases hm with ⟨rfl, hm⟩ | ⟨rfl, hm⟩ | ⟨rfl, hm⟩ | ⟨rfl, hm⟩
 ·exact alike_tcp tos1 id1 ttl1 tos2 id2 ttl2 src dst keep1 keep2 so1 so2 sd1 sd2 zo1 zo2 x z w hIo1 hIo2 hBx hBz hIx hIz hlx hlz hsr hds hox hoz hm
 ·exact alike_udp tos1 id1 ttl1 tos2 id2 ttl2 src dst keep1 keep2 so1 so2 sd1 sd2 zo1 zo2 x z w hIo1 hIo2 hBx hBz hIx hIz hlx hlz hsr hds hox hoz hm
 ·exact alike_icmp tos1 id1 ttl1 tos2 id2 ttl2 src dst keep1 keep2 so1 so2 sd1 sd2 zo1 zo2 x z w hIo1 hIo2 hBx hBz hIx hIz hlx hlz hsr hds (rwI_oie (a := 0) hBx hox (by omega)).2.2.1 (rwI_oie (a := 0) hBz hoz (by omega)).2.2.1 hm
 ·exact alike_gre tos1 id1 ttl1 tos2 id2 ttl2 src dst keep1 keep2 so1 so2 sd1 sd2 zo1 zo2 x z w hIo1 hIo2 hBx hBz hIx hIz hlx hlz hsr hds hox hoz hm
end Go.Proofs.YtghpakfjpdifaaaGreatDoor

/- What Parse answers of what was built: messages and frames. -/
namespace Go.Proofs.YtghpakfjpdifaaaGreatDoor
open Go.RowKit Go.Shelf
set_option maxRecDepth 100000
set_option linter.unusedVariables false
set_option linter.unusedSimpArgs false

/-- A message's check sum is good. -/
theorem icm_good (ty cde rest : Int) (zd : List Int) (h1 : 0 ≤ ty ∧ ty ≤ 255) (h2 : 0 ≤ cde ∧ cde ≤ 255) (h3 : 0 ≤ rest ∧ rest ≤ 4294967295) (hB : Mt.By zd) : Mt.cks (icm ty cde rest zd) = 0 := by
 have hn := Mt.tw_nonneg true _ (By_icm0 ty cde rest zd h1 h2 h3 hB)
 have ht := Mt.tw_put2 (icm0 ty cde rest zd) 2 (Mt.cks (icm0 ty cde rest zd)) (by omega) (by rw [icm0_length]; omega)
 have hz : (icm0 ty cde rest zd)[2]?.getD 0 = 0 ∧ (icm0 ty cde rest zd)[2 + 1]?.getD 0 = 0 := ⟨rfl, rfl⟩
 rw [hz.1, hz.2] at ht
 unfold icm
 have hg := Mt.fd_good _ hn
 unfold Mt.cks at ht ⊢
 rw [ht, show Mt.tw true (icm0 ty cde rest zd) + (65535 - Mt.fd (Mt.tw true (icm0 ty cde rest zd))) - (0 * 256 + 0) = Mt.tw true (icm0 ty cde rest zd) + (65535 - Mt.fd (Mt.tw true (icm0 ty cde rest zd))) from by omega, hg]
 rfl
theorem icm_drop (ty cde rest : Int) (zd : List Int) : (icm ty cde rest zd).drop 8 = zd := by simp [icm, Mt.put2, icm0]
theorem icm_0 (ty cde rest : Int) (zd : List Int) : (icm ty cde rest zd)[0]?.getD 0 = ty := by simp [icm, Mt.put2, icm0]
theorem icm_1 (ty cde rest : Int) (zd : List Int) : (icm ty cde rest zd)[1]?.getD 0 = cde := by simp [icm, Mt.put2, icm0]
theorem icm_4 (ty cde rest : Int) (zd : List Int) : wat4 (icm ty cde rest zd) 4 = rest := by simp [icm, Mt.put2, icm0, wat4, wat]; omega
theorem icm_pie (ty cde rest : Int) (zd : List Int) (h1 : 0 ≤ ty ∧ ty ≤ 255) (h2 : 0 ≤ cde ∧ cde ≤ 255) (h3 : 0 ≤ rest ∧ rest ≤ 4294967295) (hB : Mt.By zd) : pie 1 (icm ty cde rest zd) = 0 := by
 unfold pie
 rw [if_neg (by simp), icm_length, if_neg (by omega), icm_good ty cde rest zd h1 h2 h3 hB]
 simp
/-- The beginning's number. -/
def bgn (hs ha : Bool) : Nat := (if hs then 1 else 0) + (if ha then 2 else 0)
theorem grb_bgz (cl : Int) (hs ha : Bool) (sq ak : Int) (zd : List Int) : bgz (grb cl hs ha sq ak zd) = bgn hs ha := by
 cases hs <;> cases ha <;> rfl
theorem ghd_bgn (hs ha : Bool) (n : Nat) : ghd (bgn hs ha) + n = grn hs ha n := by cases hs <;> cases ha <;> simp [ghd, bgn, grn]
theorem bgn_ne (hs ha : Bool) : bgn hs ha ≠ 4 := by cases hs <;> cases ha <;> simp [bgn]
theorem grb_wat4 (cl : Int) (hs ha : Bool) (sq ak : Int) (zd more : List Int) (h : zd.length ≤ 65535) : wat (grb cl hs ha sq ak zd ++ more) 4 = zd.length := by
 unfold wat grb
 simp
 omega
theorem grb_pge (cl : Int) (hs ha : Bool) (sq ak : Int) (zd : List Int) (h : zd.length ≤ 65535) : pge 47 (grb cl hs ha sq ak zd) = 0 := by
 have hw := grb_wat4 cl hs ha sq ak zd [] h
 rw [List.append_nil] at hw
 have hg := ghd_bgn hs ha zd.length
 have hb := ghd_bd (bgn hs ha)
 unfold pge
 rw [if_neg (by simp), grb_length, grb_bgz, hw, if_neg (by omega), if_neg (bgn_ne hs ha), if_neg (by omega), if_neg (by omega)]
theorem grb_parts (cl : Int) (hs ha : Bool) (sq ak : Int) (zd : List Int) (hcl : 0 ≤ cl) (hsq : 0 ≤ sq) (hak : 0 ≤ ak) (hg : grf hs ha sq ak = false) (h : pge 47 (grb cl hs ha sq ak zd) = 0) :
  gcl 47 (grb cl hs ha sq ak zd) = cl ∧ gh1 47 (grb cl hs ha sq ak zd) = hs ∧ gh2 47 (grb cl hs ha sq ak zd) = ha ∧ gq1 47 (grb cl hs ha sq ak zd) = sq ∧ gq2 47 (grb cl hs ha sq ak zd) = ak ∧ gdt 47 (grb cl hs ha sq ak zd) = zd := by
 unfold gcl gh1 gh2 gq1 gq2 gdt
 rw [if_pos h, if_pos h, if_pos h, if_pos h, if_pos h, if_pos h, grb_bgz]
 clear h
 cases hs <;> cases ha <;> simp [grf] at hg
 ·obtain ⟨rfl, rfl⟩ := hg
  refine ⟨?_, rfl, rfl, rfl, rfl, ?_⟩
  ·simp [getAt2, grb, num4, wat]; omega
  ·simp [ghd, bgn, grb, num4]
 ·subst hg
  refine ⟨?_, rfl, rfl, rfl, ?_, ?_⟩
  ·simp [getAt2, grb, num4, wat]; omega
  ·simp [gak, bgn, getAt4, grb, num4, wat4, wat]; omega
  ·simp [ghd, bgn, grb, num4]
 ·subst hg
  refine ⟨?_, rfl, rfl, ?_, rfl, ?_⟩
  ·simp [getAt2, grb, num4, wat]; omega
  ·simp [gsq, bgn, getAt4, grb, num4, wat4, wat]; omega
  ·simp [ghd, bgn, grb, num4]
 ·refine ⟨?_, rfl, rfl, ?_, ?_, ?_⟩
  ·simp [getAt2, grb, num4, wat]; omega
  ·simp [gsq, bgn, getAt4, grb, num4, wat4, wat]; omega
  ·simp [gak, bgn, getAt4, grb, num4, wat4, wat]; omega
  ·simp [ghd, bgn, grb, num4]
end Go.Proofs.YtghpakfjpdifaaaGreatDoor
