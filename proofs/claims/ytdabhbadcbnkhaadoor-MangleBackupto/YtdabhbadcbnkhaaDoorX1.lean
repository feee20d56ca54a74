/- Several texts in one. -/
import Derived.Test.YtdabhbadcbnkhaaDoorV5
import Derived.Test.YtdabhbadcbnkhaaDoorX4
import Derived.Test.YtdabhbadcbnkhaaDoorRh
import Derived.Test.YtdabhbadcbnkhaaDoorX2
import Derived.Test.YtdabhbadcbnkhaaDoorV4
import Derived.Test.YtdabhbadcbnkhaaDoorW8
import Derived.Test.YtdabhbadcbnkhaaDoorSG
import Derived.Test.YtdabhbadcbnkhaaDoorRx
import Derived.Test.YtdabhbadcbnkhaaDoorSE
import Derived.Test.YtdabhbadcbnkhaaDoorX3
/- The document's answers for packets: Right, Same, header, Build. -/
namespace Go.Proofs.YtdabhbadcbnkhaaDoor
open Go.RowKit Go.Shelf
set_option maxRecDepth 100000
set_option linter.unusedVariables false

set_option maxHeartbeats 1000000 in
theorem rright_any (tos id ttl proto src dst : Int) (keep : Bool) (ao ad : Option Addr) (lo co ld cd : Nat) (w : World) (h1 : lo ≤ 140737488355328) (h2 : ld ≤ 140737488355328) :
    Calls Tryd.prog 11 #[.agg #[.int .u8 tos, .int .u16 id, .bool keep, .int .u8 ttl, .int .u8 proto, .int .u32 src, .int .u32 dst, .slice ao lo co, .slice ad ld cd]] w fun e w' => e = .returned (.bool (flt lo ld == 0)) ∧ Below w.heap.size w w' := by
  have hbox : Below w.heap.size w (w.alloc (.cells #[.int .u8 tos, .int .u16 id, .bool keep, .int .u8 ttl, .int .u8 proto, .int .u32 src, .int .u32 dst, .slice ao lo co, .slice ad ld cd] 26)) := (Below.refl _ _).alloc (Nat.le_refl _) _
  by_cases c1 : lo ≤ 40
  · have t1 : (lo : Int) ≤ 40 := by omega
    by_cases c2 : lo % 4 = 0
    · have t2 : ((lo : Int) % 4 == 0) = true := by simp; omega
      by_cases c3 : 20 + lo + ld ≤ 65535
      · have t3 : (20 : Int) + lo + ld ≤ 65535 := by omega
        have HF : Hid (flt lo ld = 0) := by show _ = _; unfold flt; rw [if_neg (by omega), if_neg (by omega)]
        clear c1 c2 c3
        go_enter Tryd.func11, Tryd.ntmps11
        go_wp2
        go_ret
        exact ⟨by rw [HF.out]; rfl, hbox⟩
      · have t3 : ¬ (20 : Int) + lo + ld ≤ 65535 := by omega
        have HF : Hid (flt lo ld = 8) := by show _ = _; unfold flt; rw [if_neg (by omega), if_pos (by omega)]
        clear c1 c2 c3
        go_enter Tryd.func11, Tryd.ntmps11
        go_wp2
        go_ret
        exact ⟨by rw [HF.out]; rfl, hbox⟩
    · have t2 : ((lo : Int) % 4 == 0) = false := by simp; omega
      have HF : Hid (flt lo ld = 4) := by show _ = _; unfold flt; rw [if_pos (by omega)]
      clear c1 c2
      go_enter Tryd.func11, Tryd.ntmps11
      go_wp2
      go_ret
      exact ⟨by rw [HF.out]; rfl, hbox⟩
  · have t1 : ¬ (lo : Int) ≤ 40 := by omega
    have HF : Hid (flt lo ld = 4) := by show _ = _; unfold flt; rw [if_pos (by omega)]
    clear c1
    go_enter Tryd.func11, Tryd.ntmps11
    go_wp2
    go_ret
    exact ⟨by rw [HF.out]; rfl, hbox⟩

set_option maxHeartbeats 4000000 in
theorem rsame_any (tos1 id1 ttl1 proto1 src1 dst1 tos2 id2 ttl2 proto2 src2 dst2 : Int) (keep1 keep2 : Bool) (so1 sd1 so2 sd2 : Value) (zo1 zd1 zo2 zd2 : List Int) (w : World)
    (hO1 : Mt.By zo1) (hD1 : Mt.By zd1) (hO2 : Mt.By zo2) (hD2 : Mt.By zd2) (hIo1 : Rd w.heap.size w so1 zo1) (hId1 : Rd w.heap.size w sd1 zd1) (hIo2 : Rd w.heap.size w so2 zo2) (hId2 : Rd w.heap.size w sd2 zd2) :
    Calls Tryd.prog 8 #[.agg #[.int .u8 tos1, .int .u16 id1, .bool keep1, .int .u8 ttl1, .int .u8 proto1, .int .u32 src1, .int .u32 dst1, so1, sd1], .agg #[.int .u8 tos2, .int .u16 id2, .bool keep2, .int .u8 ttl2, .int .u8 proto2, .int .u32 src2, .int .u32 dst2, so2, sd2]] w fun e w' => e = .returned (.bool (smP tos1 id1 ttl1 proto1 src1 dst1 tos2 id2 ttl2 proto2 src2 dst2 keep1 keep2 zo1 zd1 zo2 zd2)) ∧ Below w.heap.size w w' := by
  have hbox := ((Below.refl w.heap.size w).alloc (Nat.le_refl _) (.cells #[.int .u8 tos1, .int .u16 id1, .bool keep1, .int .u8 ttl1, .int .u8 proto1, .int .u32 src1, .int .u32 dst1, so1, sd1] 26)).alloc (by simp) (.cells #[.int .u8 tos2, .int .u16 id2, .bool keep2, .int .u8 ttl2, .int .u8 proto2, .int .u32 src2, .int .u32 dst2, so2, sd2] 26)
  have HA := hide (hIo1.below hbox)
  have HB := hide (hId1.below hbox)
  have HC := hide (hIo2.below hbox)
  have HE := hide (hId2.below hbox)
  obtain ⟨ao1, co1, rfl, _, _⟩ := hIo1.slice
  obtain ⟨ad1, cd1, rfl, _, _⟩ := hId1.slice
  obtain ⟨ao2, co2, rfl, _, _⟩ := hIo2.slice
  obtain ⟨ad2, cd2, rfl, _, _⟩ := hId2.slice
  have HS : Hid (smP tos1 id1 ttl1 proto1 src1 dst1 tos2 id2 ttl2 proto2 src2 dst2 keep1 keep2 zo1 zd1 zo2 zd2 = (tos1 == tos2 && (id1 == id2 && (keep1 == keep2 && (ttl1 == ttl2 && (proto1 == proto2 && (src1 == src2 && (dst1 == dst2 && (decide (zo1 = zo2) && decide (zd1 = zd2)))))))))) := rfl
  generalize smP tos1 id1 ttl1 proto1 src1 dst1 tos2 id2 ttl2 proto2 src2 dst2 keep1 keep2 zo1 zd1 zo2 zd2 = r at *
  clear hIo1 hId1 hIo2 hId2
  cases h0 : (tos1 == tos2)
  · rw [h0] at HS
    go_enter Tryd.func8, Tryd.ntmps8
    go_wp2
    go_ret
    exact ⟨by rw [HS.out]; rfl, hbox⟩
  · rw [h0] at HS
    cases h1 : (id1 == id2)
    · rw [h1] at HS
      go_enter Tryd.func8, Tryd.ntmps8
      go_wp2
      go_ret
      exact ⟨by rw [HS.out]; rfl, hbox⟩
    · rw [h1] at HS
      cases h2 : (keep1 == keep2)
      · rw [h2] at HS
        go_enter Tryd.func8, Tryd.ntmps8
        go_wp2
        go_ret
        exact ⟨by rw [HS.out]; rfl, hbox⟩
      · rw [h2] at HS
        cases h3 : (ttl1 == ttl2)
        · rw [h3] at HS
          go_enter Tryd.func8, Tryd.ntmps8
          go_wp2
          go_ret
          exact ⟨by rw [HS.out]; rfl, hbox⟩
        · rw [h3] at HS
          cases h4 : (proto1 == proto2)
          · rw [h4] at HS
            go_enter Tryd.func8, Tryd.ntmps8
            go_wp2
            go_ret
            exact ⟨by rw [HS.out]; rfl, hbox⟩
          · rw [h4] at HS
            cases h5 : (src1 == src2)
            · rw [h5] at HS
              go_enter Tryd.func8, Tryd.ntmps8
              go_wp2
              go_ret
              exact ⟨by rw [HS.out]; rfl, hbox⟩
            · rw [h5] at HS
              cases h6 : (dst1 == dst2)
              · rw [h6] at HS
                go_enter Tryd.func8, Tryd.ntmps8
                go_wp2
                go_ret
                exact ⟨by rw [HS.out]; rfl, hbox⟩
              · rw [h6] at HS
                simp only [Bool.true_and] at HS
                have ca := conv_rd 24 9 5 Tryd.underlying24 Tryd.underlying5 Tryd.underlying9 HA.out
                have cb := conv_rd 24 9 5 Tryd.underlying24 Tryd.underlying5 Tryd.underlying9 HB.out
                have cc := conv_rd 24 9 5 Tryd.underlying24 Tryd.underlying5 Tryd.underlying9 HC.out
                have ce := conv_rd 24 9 5 Tryd.underlying24 Tryd.underlying5 Tryd.underlying9 HE.out
                have e1 := str_eq hO1 hO2
                have e2 := str_eq hD1 hD2
                generalize strOfNums zo1 = s1 at *
                generalize strOfNums zo2 = s2 at *
                generalize strOfNums zd1 = s3 at *
                generalize strOfNums zd2 = s4 at *
                clear HA HB HC HE hO1 hO2 hD1 hD2
                cases h7 : decide (zo1 = zo2)
                · rw [h7] at HS e1
                  go_enter Tryd.func8, Tryd.ntmps8
                  go_wp2
                  go_ret
                  exact ⟨by rw [HS.out]; rfl, hbox⟩
                · rw [h7] at HS e1
                  go_enter Tryd.func8, Tryd.ntmps8
                  go_wp2
                  go_ret
                  exact ⟨by rw [HS.out]; rfl, hbox⟩
end Go.Proofs.YtdabhbadcbnkhaaDoor

/- A guarded operation that is not wanted is passed over. -/
namespace Go.Proofs.YtdabhbadcbnkhaaDoor
open Go.RowKit Go.Shelf
set_option maxRecDepth 100000
set_option linter.unusedVariables false
set_option linter.unusedSimpArgs false

section
variable {P : Program} {l : List Oper} {Q : Exit → Act → World → Prop} {fuel : Nat} {listed : Array Bool} {a : Act} {w : World} {R : World → World → Prop}
/-- Number i, whose guard does not hold, is passed over first. -/
theorem anyR_skipG (hp : Pre R) (i : Nat) {oi : Oper} (hi : nthOp l i = some oi)
    (hs : Region.noSelect l.toArray = true) (hf : Region.free .any l.toArray listed i = true) (hr : (Region.ready .any l.toArray listed).contains i = true)
    (hQ : ∀ v c a w, Q (.panic c) (a.put oi.dst v) w → Q (.panic c) a w) (hg : Region.wanted oi (yielded l.toArray a.tmps) = false)
    (h : wpAnyR P .any l.toArray Q R fuel (listed.setIfInBounds i true) (a.put oi.dst undef) w) : wpAnyR P .any l.toArray Q R (fuel + 1) listed a w := by
  have hi' : l.toArray[i]? = some oi := by rw [← hi, nthOp_eq]; simp
  exact wpAnyR_first hp.1 hp.2 hi' (Region.noSelect_spec hs) (hQ undef) fuel listed a w (Region.free_spec hi' hf) (by simpa using hr) (.inr ⟨hg, rfl⟩) h
end

end Go.Proofs.YtdabhbadcbnkhaaDoor

/- Layer 10: live, told; the walk of MangleTuple. -/
namespace Go.Proofs.YtdabhbadcbnkhaaDoor
open Go.RowKit Go.Shelf
set_option maxRecDepth 100000
set_option linter.unusedVariables false
set_option linter.unusedSimpArgs false

/-- A tuple as a packet tells it. -/
def tla (pr a : Int) : Int := if pr = 47 then 0 else a
def tlb (pr a b : Int) : Int := if pr = 1 then a else b

set_option maxHeartbeats 2000000 in
theorem told10_any (tp s d a b : Int) (w : World) : Calls Tryd.prog 10 #[.agg #[.int .u8 tp, .int .u32 s, .int .u32 d, .int .u16 a, .int .u16 b]] w fun e w' => e = .returned (.agg #[.int .u8 tp, .int .u32 s, .int .u32 d, .int .u16 (tla tp a), .int .u16 (tlb tp a b)]) ∧ Later w w' := by
  by_cases h1 : tp = 1
  · subst h1
    rw [show tla 1 a = a from rfl, show tlb 1 a b = a from rfl]
    go_enter Tryd.func10, Tryd.ntmps10
    go_wp2_with fail
    exact bodyPost_ret (v := .agg #[.int .u8 1, .int .u32 s, .int .u32 d, .int .u16 a, .int .u16 a]) (by simp [results, Tryd.results10, go_sem]) rfl ⟨rfl, ((Below.refl _ _).alloc (Nat.le_refl _) _).alloc (by simp) _⟩
  by_cases h47 : tp = 47
  · subst h47
    rw [show tla 47 a = 0 from rfl, show tlb 47 a b = b from rfl]
    go_enter Tryd.func10, Tryd.ntmps10
    go_wp2_with fail
    exact bodyPost_ret (v := .agg #[.int .u8 47, .int .u32 s, .int .u32 d, .int .u16 0, .int .u16 b]) (by simp [results, Tryd.results10, go_sem]) rfl ⟨rfl, ((Below.refl _ _).alloc (Nat.le_refl _) _).alloc (by simp) _⟩
  have e1 : (tp == 1) = false := by simp [h1]
  have e47 : (tp == 47) = false := by simp [h47]
  rw [show tla tp a = a from by unfold tla; rw [if_neg h47], show tlb tp a b = b from by unfold tlb; rw [if_neg h1]]
  clear h1 h47
  go_enter Tryd.func10, Tryd.ntmps10
  go_wp2_with fail
  exact bodyPost_ret (v := .agg #[.int .u8 tp, .int .u32 s, .int .u32 d, .int .u16 a, .int .u16 b]) (by simp [results, Tryd.results10, go_sem]) rfl ⟨rfl, ((Below.refl _ _).alloc (Nat.le_refl _) _).alloc (by simp) _⟩

theorem zero_rd' (W : World) : Rd W.heap.size W (.slice none 0 0) [] := .inl ⟨_, _, rfl, rfl, by omega, fun _ => rfl⟩
theorem udp_lv : Mt.By (udp 3 4 false 1 2 []) ∧ (udp 3 4 false 1 2 []).length = 8 ∧ ofe 17 1 2 (udp 3 4 false 1 2 []) = 0 := by
  refine ⟨?_, ?_, ?_⟩
  · intro z hz
    revert z
    decide +kernel
  · decide +kernel
  · decide +kernel

set_option maxHeartbeats 8000000 in
theorem live10_any (w : World) (hT : Tb w) : Calls Tryd.prog 7 #[] w fun e w' => e = .returned (.bool true) ∧ Later w w' := by
  obtain ⟨hB0, hL0, hO0⟩ := udp_lv
  have HU := hide (rbuildUdp_any 0 0 0 0 1 2 3 4 false false (.slice none 0 0) (.slice none 0 0) none 0 0 [] [] w (zero_rd' w) Mt.By.nil (zero_rd' w) (by simp) (by simp) (by omega) (by omega) (by omega) (by omega))
  generalize udp 3 4 false 1 2 [] = zu at *
  go_enter Tryd.func7, Tryd.ntmps7
  go_wp2_with fail
  refine HU.out.mono ?_
  rintro e w1 ⟨hb1, ⟨hf, _⟩ | ⟨hf, a7, c7, a8, c8, rfl, hO7, hO8⟩⟩
  · exact absurd (by decide) hf
  simp only [List.length_nil, Nat.add_zero] at *
  have l1 : Later w w1 := hb1
  have HL0 := hide hL0
  have HO0 := hide hO0
  have hT1 := hT.below hb1 hT.pos
  have kp := heap_alloc_new w1 (.cells #[.int .u8 0, .int .u16 0, .bool false, .int .u8 0, .int .u8 17, .int .u32 1, .int .u32 2, .slice a7 0 c7, .slice a8 8 c8] 26)
  have l2 := later_alloc' w1 (.cells #[.int .u8 0, .int .u16 0, .bool false, .int .u8 0, .int .u8 17, .int .u32 1, .int .u32 2, .slice a7 0 c7, .slice a8 8 c8] 26)
  have KP := hide kp
  clear hL0 hO0 HU hb1 hf kp
  go_upto_region 2 with fail
  generalize w1.alloc _ = w2 at *
  have HR := hide (rewrite_any 0 0 0 17 1 2 false (.slice a7 0 c7) (.slice a8 8 c8) [] zu 17 5 2 6 4 w2 (hT1.below l2 hT1.pos) Mt.By.nil hB0 ((hO7.later l2).rd) ((hO8.later l2).rd) (by simp) (by rw [HL0.out]; omega) (by omega) (by omega) (by omega) (by omega) (by omega) (by omega) (by omega) (by omega) (by omega) (by omega))
  have HZ : Hid (rwe 17 17 1 2 ([] : List Int).length zu = 0) := by show _ = _; unfold rwe; rw [if_neg (by simp), HO0.out, if_neg (by simp), HL0.out]; rfl
  have HTL := hide (rwD_tells (s := 5) (d := 2) (a := 6) (b := 4) hB0 HO0.out (by omega) (by omega) (by omega) (by omega))
  have HBR := hide (rwD_by (pr := 17) (s := 5) (d := 2) hB0 (a := 6) (b := 4) (by omega) (by omega))
  have HLR := hide (rwD_length 17 5 2 6 4 zu)
  generalize rwD 17 5 2 6 4 zu = zr at *
  have kP := block_cell KP.out
  go_wp2_with fail
  refine HR.out.mono ?_
  rintro e w3 ⟨hb3, ⟨hf, _⟩ | ⟨hf, ao, co, ad, cd, rfl, hOo, hOd⟩⟩
  · exact absurd HZ.out hf
  have l3 : Later w2 w3 := hb3
  rw [HL0.out] at hOd ⊢
  simp only [List.length_nil] at *
  have kq := heap_alloc_new w3 (.cells #[.int .u8 0, .int .u16 0, .bool false, .int .u8 0, .int .u8 17, .int .u32 5, .int .u32 2, .slice ao 0 co, .slice ad 8 cd] 26)
  have l4 := later_alloc' w3 (.cells #[.int .u8 0, .int .u16 0, .bool false, .int .u8 0, .int .u8 17, .int .u32 5, .int .u32 2, .slice ao 0 co, .slice ad 8 cd] 26)
  have KQ := hide kq
  clear kP HR hf hb3 kq
  go_upto_region 3 with fail
  generalize w3.alloc _ = w4 at *
  have kQ := block_cell KQ.out
  have HOF := hide (rof_any 0 0 0 17 5 2 false (.slice ao 0 co) (.slice ad 8 cd) zr w4 HBR.out (hOd.later l4).rd (by rw [HLR.out, HL0.out]; omega) (by omega) (by omega))
  rw [HTL.out.1, HTL.out.2.1, HTL.out.2.2, otv_ok] at HOF
  simp only [show (if (17 : Int) = 47 then (0 : Int) else 6) = 6 from rfl, show (if (17 : Int) = 1 then (6 : Int) else 4) = 4 from rfl] at HOF
  go_wp2_with fail
  refine HOF.out.mono ?_
  rintro e w5 ⟨hb5, rfl⟩
  have l5 : Later w4 w5 := hb5
  go_wp2_with fail
  go_ret
  exact ⟨rfl, l1.trans (l2.trans (l3.trans (l4.trans (l5.trans (later_alloc' _ _)))))⟩
end Go.Proofs.YtdabhbadcbnkhaaDoor

/- The walk of MangleTuple. -/
namespace Go.Proofs.YtdabhbadcbnkhaaDoor
open Go.RowKit Go.Shelf
set_option maxRecDepth 100000
set_option linter.unusedVariables false
set_option linter.unusedSimpArgs false

theorem rwe_zero {pr tp src dst : Int} {lo : Nat} {zd : List Int} (h : rwe pr tp src dst lo zd = 0) : pr = tp ∧ ofe pr src dst zd = 0 ∧ flt lo zd.length = 0 := by
  unfold rwe at h
  split at h
  · omega
  split at h
  · rename_i h1 h2; exact absurd h h2
  · rename_i h1 h2; exact ⟨by simpa using h1, by simpa using h2, h⟩

set_option maxHeartbeats 16000000 in
theorem walk_MangleTuple (w : World) (hT : Tb w) (tos id ttl pr src dst : Int) (keep : Bool) (so sd : Value) (zo zd : List Int) (hBo : Mt.By zo) (hBd : Mt.By zd) (hIo : Rd w.heap.size w so zo) (hId : Rd w.heap.size w sd zd) (hlo : zo.length ≤ 140737488351232) (hld : zd.length ≤ 140737488351232)
    (ht : 0 ≤ tos ∧ tos ≤ 255) (hid : 0 ≤ id ∧ id ≤ 65535) (htt : 0 ≤ ttl ∧ ttl ≤ 255) (hpr : 0 ≤ pr ∧ pr ≤ 255) (hsr : 0 ≤ src ∧ src ≤ 4294967295) (hds : 0 ≤ dst ∧ dst ≤ 4294967295)
    (tp s d a b : Int) (htp : 0 ≤ tp ∧ tp ≤ 255) (hs : 0 ≤ s ∧ s ≤ 4294967295) (hd : 0 ≤ d ∧ d ≤ 4294967295) (ha : 0 ≤ a ∧ a ≤ 65535) (hb : 0 ≤ b ∧ b ≤ 65535) :
    Calls Tryd.prog 3 #[.agg #[.int .u8 tos, .int .u16 id, .bool keep, .int .u8 ttl, .int .u8 pr, .int .u32 src, .int .u32 dst, so, sd], .agg #[.int .u8 tp, .int .u32 s, .int .u32 d, .int .u16 a, .int .u16 b]] w fun e w' => e = .returned (.bool true) ∧ Below w.heap.size w w' := by
  obtain ⟨ao, co, rfl, hlo1, hmo1⟩ := hIo.slice
  obtain ⟨ad, cd, rfl, hl1, hm1⟩ := hId.slice
  have hb0 : Below w.heap.size w ((w.alloc (.cells #[.int .u8 tos, .int .u16 id, .bool keep, .int .u8 ttl, .int .u8 pr, .int .u32 src, .int .u32 dst, .slice ao zo.length co, .slice ad zd.length cd] 26)).alloc (.cells #[.int .u8 tp, .int .u32 s, .int .u32 d, .int .u16 a, .int .u16 b] 28)) := ((Below.refl _ _).alloc (Nat.le_refl _) _).alloc (by simp) _
  have p0 : ((w.alloc (.cells #[.int .u8 tos, .int .u16 id, .bool keep, .int .u8 ttl, .int .u8 pr, .int .u32 src, .int .u32 dst, .slice ao zo.length co, .slice ad zd.length cd] 26)).alloc (.cells #[.int .u8 tp, .int .u32 s, .int .u32 d, .int .u16 a, .int .u16 b] 28)).heap[w.heap.size]? = some (.cells #[.int .u8 tos, .int .u16 id, .bool keep, .int .u8 ttl, .int .u8 pr, .int .u32 src, .int .u32 dst, .slice ao zo.length co, .slice ad zd.length cd] 26) := (Below.heap_alloc _ _ _ (by simp)).trans (heap_alloc_new w _)
  have t0 : ((w.alloc (.cells #[.int .u8 tos, .int .u16 id, .bool keep, .int .u8 ttl, .int .u8 pr, .int .u32 src, .int .u32 dst, .slice ao zo.length co, .slice ad zd.length cd] 26)).alloc (.cells #[.int .u8 tp, .int .u32 s, .int .u32 d, .int .u16 a, .int .u16 b] 28)).heap[w.heap.size + 1]? = some (.cells #[.int .u8 tp, .int .u32 s, .int .u32 d, .int .u16 a, .int .u16 b] 28) := by
    have := heap_alloc_new (w.alloc (.cells #[.int .u8 tos, .int .u16 id, .bool keep, .int .u8 ttl, .int .u8 pr, .int .u32 src, .int .u32 dst, .slice ao zo.length co, .slice ad zd.length cd] 26)) (.cells #[.int .u8 tp, .int .u32 s, .int .u32 d, .int .u16 a, .int .u16 b] 28)
    rw [World.size_alloc] at this
    exact this
  have P0 := hide p0
  have T0 := hide t0
  clear p0 t0
  go_enter Tryd.func3, Tryd.ntmps3
  go_upto_region 1 with fail
  generalize (w.alloc _).alloc _ = W0 at *
  have L0 : Later w W0 := hb0
  have kP := block_cell P0.out
  have kT := block_cell T0.out
  have hIo0 := (hIo.below L0).mono L0.size
  have hId0 := (hId.below L0).mono L0.size
  have HRW := hide (rewrite_any tos id ttl pr src dst keep _ _ zo zd tp s d a b W0 (hT.below hb0 hT.pos) hBo hBd hIo0 hId0 (by omega) hld ht hid htt hpr hsr hds hs hd ha hb)
  go_wp2_with fail
  refine HRW.out.mono ?_
  rintro e w1 ⟨hb1, ⟨hf, rfl⟩ | ⟨hf, ao2, co2, ad2, cd2, rfl, hOo, hOd⟩⟩
  · have l1 : Later W0 w1 := hb1
    generalize rwe pr tp src dst zo.length zd = er at *
    have t1 : (er != 0) = true := by simp [hf]
    rw [show (zpk.toArray) = #[.int .u8 0, .int .u16 0, .bool false, .int .u8 0, .int .u8 0, .int .u32 0, .int .u32 0, .slice none 0 0, .slice none 0 0] from rfl]
    have l2 := later_alloc' w1 (.cells #[.int .u8 0, .int .u16 0, .bool false, .int .u8 0, .int .u8 0, .int .u32 0, .int .u32 0, .slice none 0 0, .slice none 0 0] 26)
    have KQ := hide (heap_alloc_new w1 (.cells #[.int .u8 0, .int .u16 0, .bool false, .int .u8 0, .int .u8 0, .int .u32 0, .int .u32 0, .slice none 0 0, .slice none 0 0] 26))
    clear kP kT HRW hf
    go_upto_region 3 with fail
    generalize w1.alloc _ = w2 at *
    have L2 : Later w w2 := L0.trans (l1.trans l2)
    go_wp2_with fail
    refine (live10_any w2 (hT.below L2 hT.pos)).mono ?_
    rintro e w3 ⟨rfl, l3⟩
    have kQ := block_cell ((l3.block w1.heap.size (Array.getElem?_eq_some_iff.1 KQ.out).1).trans KQ.out)
    have HS := hide (rsame_any 0 0 0 0 0 0 0 0 0 0 0 0 false false (.slice none 0 0) (.slice none 0 0) (.slice none 0 0) (.slice none 0 0) [] [] [] [] w3 Mt.By.nil Mt.By.nil Mt.By.nil Mt.By.nil (zero_rd' w3) (zero_rd' w3) (zero_rd' w3) (zero_rd' w3))
    rw [show smP 0 0 0 0 0 0 0 0 0 0 0 0 false false [] [] [] [] = true from by decide] at HS
    go_wp2_with fail
    refine HS.out.mono ?_
    rintro e w4 ⟨rfl, l4⟩
    go_wp2_with fail
    go_ret
    exact ⟨rfl, L2.trans (l3.trans l4)⟩
  · have l1 : Later W0 w1 := hb1
    obtain ⟨hpt, hoe, hfl⟩ := rwe_zero hf
    subst hpt
    have HTL := hide (rwD_tells (s := s) (d := d) (a := a) (b := b) hBd hoe hs hd ha hb)
    have HBR := hide (rwD_by (pr := pr) (s := s) (d := d) hBd ha hb)
    have HLR := hide (rwD_length pr s d a b zd)
    have HTD := hide (fun v => told10_any pr s d a b v)
    have HRI := hide (fun v => rright_any tos id ttl pr s d keep ao2 ad2 zo.length co2 zd.length cd2 v (by omega) (by omega))
    rw [hfl] at HRI
    simp only [show ((0 : Int) == 0) = true from rfl] at HRI
    have h65 : zd.length ≤ 65535 := by have := flt_fit2 hfl; omega
    have H65 := hide h65
    generalize rwD pr s d a b zd = zr at *
    rw [show (if pr = 47 then (0 : Int) else a) = tla pr a from rfl, show (if pr = 1 then a else b) = tlb pr a b from rfl] at HTL
    generalize tla pr a = ta at *
    generalize tlb pr a b = tb at *
    have l2 := later_alloc' w1 (.cells #[.int .u8 tos, .int .u16 id, .bool keep, .int .u8 ttl, .int .u8 pr, .int .u32 s, .int .u32 d, .slice ao2 zo.length co2, .slice ad2 zd.length cd2] 26)
    have KQ := hide (heap_alloc_new w1 (.cells #[.int .u8 tos, .int .u16 id, .bool keep, .int .u8 ttl, .int .u8 pr, .int .u32 s, .int .u32 d, .slice ao2 zo.length co2, .slice ad2 zd.length cd2] 26))
    clear kP kT HRW hf hoe hfl h65
    go_upto_region 4 with fail
    generalize w1.alloc _ = w2 at *
    have HOF := hide (rof_any tos id ttl pr s d keep (.slice ao2 zo.length co2) (.slice ad2 zd.length cd2) zr w2 HBR.out (hOd.later l2).rd (by rw [HLR.out]; have := H65.out; omega) hs hd)
    rw [HTL.out.1, HTL.out.2.1, HTL.out.2.2, otv_ok] at HOF
    have kQ := block_cell KQ.out
    go_wp2_with fail
    refine HOF.out.mono ?_
    rintro e w3 ⟨hb3, rfl⟩
    have l3 : Later w2 w3 := hb3
    have l4 := later_alloc' w3 (.cells #[.int .u8 pr, .int .u32 s, .int .u32 d, .int .u16 ta, .int .u16 tb] 28)
    have KS := hide (heap_alloc_new w3 (.cells #[.int .u8 pr, .int .u32 s, .int .u32 d, .int .u16 ta, .int .u16 tb] 28))
    clear kQ HOF hb3
    go_upto_region 5 with fail
    generalize w3.alloc _ = w4 at *
    have L4 : Later w w4 := L0.trans (l1.trans (l2.trans (l3.trans l4)))
    refine anyR_begin (R := Later) Later.pre Later.drew 55 rfl (by kernel_rfl) (fun V0 hV0 => ?_)
    have HTb : Hid (∀ v, Later V0 v → Tb v) := fun v hv => hT.below (L4.trans (hV0.trans hv)) hT.pos
    have qP : ∀ v, Later V0 v → ∀ j, v.cell? ⟨w.heap.size, j, none⟩ = #[Value.int .u8 tos, .int .u16 id, .bool keep, .int .u8 ttl, .int .u8 pr, .int .u32 src, .int .u32 dst, .slice ao zo.length co, .slice ad zd.length cd][j]? := fun v hv => block_cell (((l1.trans (l2.trans (l3.trans (l4.trans (hV0.trans hv))))).block w.heap.size (Array.getElem?_eq_some_iff.1 P0.out).1).trans P0.out)
    have qT : ∀ v, Later V0 v → ∀ j, v.cell? ⟨w.heap.size + 1, j, none⟩ = #[Value.int .u8 pr, .int .u32 s, .int .u32 d, .int .u16 a, .int .u16 b][j]? := fun v hv => block_cell (((l1.trans (l2.trans (l3.trans (l4.trans (hV0.trans hv))))).block (w.heap.size + 1) (Array.getElem?_eq_some_iff.1 T0.out).1).trans T0.out)
    have qQ : ∀ v, Later V0 v → ∀ j, v.cell? ⟨w1.heap.size, j, none⟩ = #[Value.int .u8 tos, .int .u16 id, .bool keep, .int .u8 ttl, .int .u8 pr, .int .u32 s, .int .u32 d, .slice ao2 zo.length co2, .slice ad2 zd.length cd2][j]? := fun v hv => block_cell (((l3.trans (l4.trans (hV0.trans hv))).block w1.heap.size (Array.getElem?_eq_some_iff.1 KQ.out).1).trans KQ.out)
    have qS : ∀ v, Later V0 v → ∀ j, v.cell? ⟨w3.heap.size, j, none⟩ = #[Value.int .u8 pr, .int .u32 s, .int .u32 d, .int .u16 ta, .int .u16 tb][j]? := fun v hv => block_cell (((hV0.trans hv).block w3.heap.size (Array.getElem?_eq_some_iff.1 KS.out).1).trans KS.out)
    have qo : ∀ v, Later V0 v → (convert 24 9 (.slice ao zo.length co)).run Tryd.prog v = .ok (.string (strOfNums zo)) v := fun v hv => conv_rd 24 9 5 Tryd.underlying24 Tryd.underlying5 Tryd.underlying9 (hIo.below (L4.trans (hV0.trans hv)))
    have qn : ∀ v, Later V0 v → (convert 24 9 (.slice ao2 zo.length co2)).run Tryd.prog v = .ok (.string (strOfNums zo)) v := fun v hv => conv_rd 24 9 5 Tryd.underlying24 Tryd.underlying5 Tryd.underlying9 (hOo.rd.below (l2.trans (l3.trans (l4.trans (hV0.trans hv)))))
    refine anyR_take Later.pre 0 (.bool true) rfl (by kernel_rfl) (by kernel_rfl) (by kernel_rfl) (fun _ _ _ h => h) rfl (fun v1 hv1 => goes_call 7 #[] (by go_simp) (live10_any v1 (HTb.out v1 hv1))) ?_
    simp only [Act.put, List.setIfInBounds_toArray, List.set_cons_zero, List.set_cons_succ]
    refine anyR_val Later.pre 1 rfl (by kernel_rfl) (by kernel_rfl) (by kernel_rfl) (fun _ _ _ _ h => h) rfl ?_; apply Exists.intro; refine ⟨fun v1 hv1 => ?_, ?_⟩; (· (go_simp; rfl)); simp only [Act.put, List.setIfInBounds_toArray, List.set_cons_zero, List.set_cons_succ]
    refine anyR_valG Later.pre 2 rfl (by kernel_rfl) (by kernel_rfl) (by kernel_rfl) (fun _ _ _ _ h => h) (by rfl) ?_; apply Exists.intro; refine ⟨fun v1 hv1 => ?_, ?_⟩; (· (go_simp; rfl)); simp only [Act.put, List.setIfInBounds_toArray, List.set_cons_zero, List.set_cons_succ]
    refine anyR_valG Later.pre 3 rfl (by kernel_rfl) (by kernel_rfl) (by kernel_rfl) (fun _ _ _ _ h => h) (by rfl) ?_; apply Exists.intro; refine ⟨fun v1 hv1 => ?_, ?_⟩; (· (go_simp; rfl)); simp only [Act.put, List.setIfInBounds_toArray, List.set_cons_zero, List.set_cons_succ]
    refine anyR_val Later.pre 4 rfl (by kernel_rfl) (by kernel_rfl) (by kernel_rfl) (fun _ _ _ _ h => h) rfl ?_; apply Exists.intro; refine ⟨fun v1 hv1 => ?_, ?_⟩; (· (go_simp; rfl)); simp only [Act.put, List.setIfInBounds_toArray, List.set_cons_zero, List.set_cons_succ]
    refine anyR_val Later.pre 5 rfl (by kernel_rfl) (by kernel_rfl) (by kernel_rfl) (fun _ _ _ _ h => h) rfl ?_; apply Exists.intro; refine ⟨fun v1 hv1 => ?_, ?_⟩; (· (go_simp; rfl)); simp only [Act.put, List.setIfInBounds_toArray, List.set_cons_zero, List.set_cons_succ]
    refine anyR_valG Later.pre 6 rfl (by kernel_rfl) (by kernel_rfl) (by kernel_rfl) (fun _ _ _ _ h => h) (by rfl) ?_; apply Exists.intro; refine ⟨fun v1 hv1 => ?_, ?_⟩; (· (go_simp; rfl)); simp only [Act.put, List.setIfInBounds_toArray, List.set_cons_zero, List.set_cons_succ]
    refine anyR_valG Later.pre 7 rfl (by kernel_rfl) (by kernel_rfl) (by kernel_rfl) (fun _ _ _ _ h => h) (by rfl) ?_; apply Exists.intro; refine ⟨fun v1 hv1 => ?_, ?_⟩; (· (go_simp; rfl)); simp only [Act.put, List.setIfInBounds_toArray, List.set_cons_zero, List.set_cons_succ]
    refine anyR_takeG Later.pre 8 (.agg #[.int .u8 pr, .int .u32 s, .int .u32 d, .int .u16 ta, .int .u16 tb]) rfl (by kernel_rfl) (by kernel_rfl) (by kernel_rfl) (fun _ _ _ h => h) (by rfl) (fun v1 hv1 => goes_call 10 #[.agg #[.int .u8 pr, .int .u32 s, .int .u32 d, .int .u16 a, .int .u16 b]] (by go_simp) (HTD.out v1)) ?_
    simp only [Act.put, List.setIfInBounds_toArray, List.set_cons_zero, List.set_cons_succ]
    refine anyR_valG Later.pre 9 rfl (by kernel_rfl) (by kernel_rfl) (by kernel_rfl) (fun _ _ _ _ h => h) (by rfl) ?_; apply Exists.intro; refine ⟨fun v1 hv1 => ?_, ?_⟩; (· (go_simp; rfl)); simp only [Act.put, List.setIfInBounds_toArray, List.set_cons_zero, List.set_cons_succ]
    refine anyR_val Later.pre 10 rfl (by kernel_rfl) (by kernel_rfl) (by kernel_rfl) (fun _ _ _ _ h => h) rfl ?_; apply Exists.intro; refine ⟨fun v1 hv1 => ?_, ?_⟩; (· (go_simp; rfl)); simp only [Act.put, List.setIfInBounds_toArray, List.set_cons_zero, List.set_cons_succ]
    refine anyR_val Later.pre 11 rfl (by kernel_rfl) (by kernel_rfl) (by kernel_rfl) (fun _ _ _ _ h => h) rfl ?_; apply Exists.intro; refine ⟨fun v1 hv1 => ?_, ?_⟩; (· (go_simp; rfl)); simp only [Act.put, List.setIfInBounds_toArray, List.set_cons_zero, List.set_cons_succ]
    refine anyR_valG Later.pre 12 rfl (by kernel_rfl) (by kernel_rfl) (by kernel_rfl) (fun _ _ _ _ h => h) (by rfl) ?_; apply Exists.intro; refine ⟨fun v1 hv1 => ?_, ?_⟩; (· (go_simp; rfl)); simp only [Act.put, List.setIfInBounds_toArray, List.set_cons_zero, List.set_cons_succ]
    refine anyR_takeG Later.pre 13 (.bool true) rfl (by kernel_rfl) (by kernel_rfl) (by kernel_rfl) (fun _ _ _ h => h) (by rfl) (fun v1 hv1 => goes_call 11 #[.agg #[.int .u8 tos, .int .u16 id, .bool keep, .int .u8 ttl, .int .u8 pr, .int .u32 s, .int .u32 d, .slice ao2 zo.length co2, .slice ad2 zd.length cd2]] (by go_simp) (HRI.out v1)) ?_
    simp only [Act.put, List.setIfInBounds_toArray, List.set_cons_zero, List.set_cons_succ]
    refine anyR_val Later.pre 14 rfl (by kernel_rfl) (by kernel_rfl) (by kernel_rfl) (fun _ _ _ _ h => h) rfl ?_; apply Exists.intro; refine ⟨fun v1 hv1 => ?_, ?_⟩; (· (go_simp; rfl)); simp only [Act.put, List.setIfInBounds_toArray, List.set_cons_zero, List.set_cons_succ]
    refine anyR_val Later.pre 15 rfl (by kernel_rfl) (by kernel_rfl) (by kernel_rfl) (fun _ _ _ _ h => h) rfl ?_; apply Exists.intro; refine ⟨fun v1 hv1 => ?_, ?_⟩; (· (go_simp; rfl)); simp only [Act.put, List.setIfInBounds_toArray, List.set_cons_zero, List.set_cons_succ]
    refine anyR_valG Later.pre 16 rfl (by kernel_rfl) (by kernel_rfl) (by kernel_rfl) (fun _ _ _ _ h => h) (by rfl) ?_; apply Exists.intro; refine ⟨fun v1 hv1 => ?_, ?_⟩; (· (go_simp; rfl)); simp only [Act.put, List.setIfInBounds_toArray, List.set_cons_zero, List.set_cons_succ]
    refine anyR_valG Later.pre 17 rfl (by kernel_rfl) (by kernel_rfl) (by kernel_rfl) (fun _ _ _ _ h => h) (by rfl) ?_; apply Exists.intro; refine ⟨fun v1 hv1 => ?_, ?_⟩; (· (go_simp; rfl)); simp only [Act.put, List.setIfInBounds_toArray, List.set_cons_zero, List.set_cons_succ]
    refine anyR_valG Later.pre 18 rfl (by kernel_rfl) (by kernel_rfl) (by kernel_rfl) (fun _ _ _ _ h => h) (by rfl) ?_; apply Exists.intro; refine ⟨fun v1 hv1 => ?_, ?_⟩; (· (go_simp; rfl)); simp only [Act.put, List.setIfInBounds_toArray, List.set_cons_zero, List.set_cons_succ]
    refine anyR_valG Later.pre 19 rfl (by kernel_rfl) (by kernel_rfl) (by kernel_rfl) (fun _ _ _ _ h => h) (by rfl) ?_; apply Exists.intro; refine ⟨fun v1 hv1 => ?_, ?_⟩; (· (go_simp; rfl)); simp only [Act.put, List.setIfInBounds_toArray, List.set_cons_zero, List.set_cons_succ]
    refine anyR_valG Later.pre 20 rfl (by kernel_rfl) (by kernel_rfl) (by kernel_rfl) (fun _ _ _ _ h => h) (by rfl) ?_; apply Exists.intro; refine ⟨fun v1 hv1 => ?_, ?_⟩; (· (go_simp; rfl)); simp only [Act.put, List.setIfInBounds_toArray, List.set_cons_zero, List.set_cons_succ]
    refine anyR_valG Later.pre 21 rfl (by kernel_rfl) (by kernel_rfl) (by kernel_rfl) (fun _ _ _ _ h => h) (by rfl) ?_; apply Exists.intro; refine ⟨fun v1 hv1 => ?_, ?_⟩; (· (go_simp; rfl)); simp only [Act.put, List.setIfInBounds_toArray, List.set_cons_zero, List.set_cons_succ]
    refine anyR_valG Later.pre 22 rfl (by kernel_rfl) (by kernel_rfl) (by kernel_rfl) (fun _ _ _ _ h => h) (by rfl) ?_; apply Exists.intro; refine ⟨fun v1 hv1 => ?_, ?_⟩; (· (go_simp; rfl)); simp only [Act.put, List.setIfInBounds_toArray, List.set_cons_zero, List.set_cons_succ]
    refine anyR_val Later.pre 23 rfl (by kernel_rfl) (by kernel_rfl) (by kernel_rfl) (fun _ _ _ _ h => h) rfl ?_; apply Exists.intro; refine ⟨fun v1 hv1 => ?_, ?_⟩; (· (go_simp; rfl)); simp only [Act.put, List.setIfInBounds_toArray, List.set_cons_zero, List.set_cons_succ]
    refine anyR_val Later.pre 24 rfl (by kernel_rfl) (by kernel_rfl) (by kernel_rfl) (fun _ _ _ _ h => h) rfl ?_; apply Exists.intro; refine ⟨fun v1 hv1 => ?_, ?_⟩; (· (go_simp; rfl)); simp only [Act.put, List.setIfInBounds_toArray, List.set_cons_zero, List.set_cons_succ]
    refine anyR_valG Later.pre 25 rfl (by kernel_rfl) (by kernel_rfl) (by kernel_rfl) (fun _ _ _ _ h => h) (by rfl) ?_; apply Exists.intro; refine ⟨fun v1 hv1 => ?_, ?_⟩; (· (go_simp; rfl)); simp only [Act.put, List.setIfInBounds_toArray, List.set_cons_zero, List.set_cons_succ]
    refine anyR_valG Later.pre 26 rfl (by kernel_rfl) (by kernel_rfl) (by kernel_rfl) (fun _ _ _ _ h => h) (by rfl) ?_; apply Exists.intro; refine ⟨fun v1 hv1 => ?_, ?_⟩; (· (go_simp; rfl)); simp only [Act.put, List.setIfInBounds_toArray, List.set_cons_zero, List.set_cons_succ]
    refine anyR_valG Later.pre 27 rfl (by kernel_rfl) (by kernel_rfl) (by kernel_rfl) (fun _ _ _ _ h => h) (by rfl) ?_; apply Exists.intro; refine ⟨fun v1 hv1 => ?_, ?_⟩; (· (go_simp; rfl)); simp only [Act.put, List.setIfInBounds_toArray, List.set_cons_zero, List.set_cons_succ]
    refine anyR_valG Later.pre 28 rfl (by kernel_rfl) (by kernel_rfl) (by kernel_rfl) (fun _ _ _ _ h => h) (by rfl) ?_; apply Exists.intro; refine ⟨fun v1 hv1 => ?_, ?_⟩; (· (go_simp; rfl)); simp only [Act.put, List.setIfInBounds_toArray, List.set_cons_zero, List.set_cons_succ]
    refine anyR_valG Later.pre 29 rfl (by kernel_rfl) (by kernel_rfl) (by kernel_rfl) (fun _ _ _ _ h => h) (by rfl) ?_; apply Exists.intro; refine ⟨fun v1 hv1 => ?_, ?_⟩; (· (go_simp; rfl)); simp only [Act.put, List.setIfInBounds_toArray, List.set_cons_zero, List.set_cons_succ]
    refine anyR_val Later.pre 30 rfl (by kernel_rfl) (by kernel_rfl) (by kernel_rfl) (fun _ _ _ _ h => h) rfl ?_; apply Exists.intro; refine ⟨fun v1 hv1 => ?_, ?_⟩; (· (go_simp; rfl)); simp only [Act.put, List.setIfInBounds_toArray, List.set_cons_zero, List.set_cons_succ]
    refine anyR_val Later.pre 31 rfl (by kernel_rfl) (by kernel_rfl) (by kernel_rfl) (fun _ _ _ _ h => h) rfl ?_; apply Exists.intro; refine ⟨fun v1 hv1 => ?_, ?_⟩; (· (go_simp; rfl)); simp only [Act.put, List.setIfInBounds_toArray, List.set_cons_zero, List.set_cons_succ]
    refine anyR_valG Later.pre 32 rfl (by kernel_rfl) (by kernel_rfl) (by kernel_rfl) (fun _ _ _ _ h => h) (by rfl) ?_; apply Exists.intro; refine ⟨fun v1 hv1 => ?_, ?_⟩; (· (go_simp; rfl)); simp only [Act.put, List.setIfInBounds_toArray, List.set_cons_zero, List.set_cons_succ]
    refine anyR_valG Later.pre 33 rfl (by kernel_rfl) (by kernel_rfl) (by kernel_rfl) (fun _ _ _ _ h => h) (by rfl) ?_; apply Exists.intro; refine ⟨fun v1 hv1 => ?_, ?_⟩; (· (go_simp; rfl)); simp only [Act.put, List.setIfInBounds_toArray, List.set_cons_zero, List.set_cons_succ]
    refine anyR_valG Later.pre 34 rfl (by kernel_rfl) (by kernel_rfl) (by kernel_rfl) (fun _ _ _ _ h => h) (by rfl) ?_; apply Exists.intro; refine ⟨fun v1 hv1 => ?_, ?_⟩; (· (go_simp; rfl)); simp only [Act.put, List.setIfInBounds_toArray, List.set_cons_zero, List.set_cons_succ]
    refine anyR_valG Later.pre 35 rfl (by kernel_rfl) (by kernel_rfl) (by kernel_rfl) (fun _ _ _ _ h => h) (by rfl) ?_; apply Exists.intro; refine ⟨fun v1 hv1 => ?_, ?_⟩; (· (go_simp; rfl)); simp only [Act.put, List.setIfInBounds_toArray, List.set_cons_zero, List.set_cons_succ]
    refine anyR_valG Later.pre 36 rfl (by kernel_rfl) (by kernel_rfl) (by kernel_rfl) (fun _ _ _ _ h => h) (by rfl) ?_; apply Exists.intro; refine ⟨fun v1 hv1 => ?_, ?_⟩; (· (go_simp; rfl)); simp only [Act.put, List.setIfInBounds_toArray, List.set_cons_zero, List.set_cons_succ]
    refine anyR_val Later.pre 37 rfl (by kernel_rfl) (by kernel_rfl) (by kernel_rfl) (fun _ _ _ _ h => h) rfl ?_; apply Exists.intro; refine ⟨fun v1 hv1 => ?_, ?_⟩; (· (go_simp; rfl)); simp only [Act.put, List.setIfInBounds_toArray, List.set_cons_zero, List.set_cons_succ]
    refine anyR_val Later.pre 38 rfl (by kernel_rfl) (by kernel_rfl) (by kernel_rfl) (fun _ _ _ _ h => h) rfl ?_; apply Exists.intro; refine ⟨fun v1 hv1 => ?_, ?_⟩; (· (go_simp; rfl)); simp only [Act.put, List.setIfInBounds_toArray, List.set_cons_zero, List.set_cons_succ]
    refine anyR_valG Later.pre 39 rfl (by kernel_rfl) (by kernel_rfl) (by kernel_rfl) (fun _ _ _ _ h => h) (by rfl) ?_; apply Exists.intro; refine ⟨fun v1 hv1 => ?_, ?_⟩; (· (go_simp; rfl)); simp only [Act.put, List.setIfInBounds_toArray, List.set_cons_zero, List.set_cons_succ]
    refine anyR_valG Later.pre 40 rfl (by kernel_rfl) (by kernel_rfl) (by kernel_rfl) (fun _ _ _ _ h => h) (by rfl) ?_; apply Exists.intro; refine ⟨fun v1 hv1 => ?_, ?_⟩; (· (go_simp; rfl)); simp only [Act.put, List.setIfInBounds_toArray, List.set_cons_zero, List.set_cons_succ]
    refine anyR_valG Later.pre 41 rfl (by kernel_rfl) (by kernel_rfl) (by kernel_rfl) (fun _ _ _ _ h => h) (by rfl) ?_; apply Exists.intro; refine ⟨fun v1 hv1 => ?_, ?_⟩; (· (go_simp; rfl)); simp only [Act.put, List.setIfInBounds_toArray, List.set_cons_zero, List.set_cons_succ]
    refine anyR_valG Later.pre 42 rfl (by kernel_rfl) (by kernel_rfl) (by kernel_rfl) (fun _ _ _ _ h => h) (by rfl) ?_; apply Exists.intro; refine ⟨fun v1 hv1 => ?_, ?_⟩; (· (go_simp; rfl)); simp only [Act.put, List.setIfInBounds_toArray, List.set_cons_zero, List.set_cons_succ]
    refine anyR_valG Later.pre 43 rfl (by kernel_rfl) (by kernel_rfl) (by kernel_rfl) (fun _ _ _ _ h => h) (by rfl) ?_; apply Exists.intro; refine ⟨fun v1 hv1 => ?_, ?_⟩; (· (go_simp; rfl)); simp only [Act.put, List.setIfInBounds_toArray, List.set_cons_zero, List.set_cons_succ]
    refine anyR_val Later.pre 44 rfl (by kernel_rfl) (by kernel_rfl) (by kernel_rfl) (fun _ _ _ _ h => h) rfl ?_; apply Exists.intro; refine ⟨fun v1 hv1 => ?_, ?_⟩; (· (go_simp; rfl)); simp only [Act.put, List.setIfInBounds_toArray, List.set_cons_zero, List.set_cons_succ]
    refine anyR_val Later.pre 45 rfl (by kernel_rfl) (by kernel_rfl) (by kernel_rfl) (fun _ _ _ _ h => h) rfl ?_; apply Exists.intro; refine ⟨fun v1 hv1 => ?_, ?_⟩; (· (go_simp; rfl)); simp only [Act.put, List.setIfInBounds_toArray, List.set_cons_zero, List.set_cons_succ]
    refine anyR_valG Later.pre 46 rfl (by kernel_rfl) (by kernel_rfl) (by kernel_rfl) (fun _ _ _ _ h => h) (by rfl) ?_; apply Exists.intro; refine ⟨fun v1 hv1 => ?_, ?_⟩; (· (go_simp; rfl)); simp only [Act.put, List.setIfInBounds_toArray, List.set_cons_zero, List.set_cons_succ]
    refine anyR_valG Later.pre 47 rfl (by kernel_rfl) (by kernel_rfl) (by kernel_rfl) (fun _ _ _ _ h => h) (by rfl) ?_; apply Exists.intro; refine ⟨fun v1 hv1 => ?_, ?_⟩; (· (go_simp; rfl)); simp only [Act.put, List.setIfInBounds_toArray, List.set_cons_zero, List.set_cons_succ]
    refine anyR_valG Later.pre 48 rfl (by kernel_rfl) (by kernel_rfl) (by kernel_rfl) (fun _ _ _ _ h => h) (by rfl) ?_; apply Exists.intro; refine ⟨fun v1 hv1 => ?_, ?_⟩; (· (go_simp; rfl)); simp only [Act.put, List.setIfInBounds_toArray, List.set_cons_zero, List.set_cons_succ]
    refine anyR_valG Later.pre 49 rfl (by kernel_rfl) (by kernel_rfl) (by kernel_rfl) (fun _ _ _ _ h => h) (by rfl) ?_; apply Exists.intro; refine ⟨fun v1 hv1 => ?_, ?_⟩; (· (go_simp; rfl)); simp only [Act.put, List.setIfInBounds_toArray, List.set_cons_zero, List.set_cons_succ]
    refine anyR_valG Later.pre 50 rfl (by kernel_rfl) (by kernel_rfl) (by kernel_rfl) (fun _ _ _ _ h => h) (by rfl) ?_; apply Exists.intro; refine ⟨fun v1 hv1 => ?_, ?_⟩; (· (go_simp; rfl)); simp only [Act.put, List.setIfInBounds_toArray, List.set_cons_zero, List.set_cons_succ]
    refine anyR_valG Later.pre 51 rfl (by kernel_rfl) (by kernel_rfl) (by kernel_rfl) (fun _ _ _ _ h => h) (by rfl) ?_; apply Exists.intro; refine ⟨fun v1 hv1 => ?_, ?_⟩; (· (go_simp; rfl)); simp only [Act.put, List.setIfInBounds_toArray, List.set_cons_zero, List.set_cons_succ]
    refine anyR_valG Later.pre 52 rfl (by kernel_rfl) (by kernel_rfl) (by kernel_rfl) (fun _ _ _ _ h => h) (by rfl) ?_; apply Exists.intro; refine ⟨fun v1 hv1 => ?_, ?_⟩; (· (go_simp; rfl)); simp only [Act.put, List.setIfInBounds_toArray, List.set_cons_zero, List.set_cons_succ]
    refine anyR_val Later.pre 53 rfl (by kernel_rfl) (by kernel_rfl) (by kernel_rfl) (fun _ _ _ _ h => h) rfl ?_; apply Exists.intro; refine ⟨fun v1 hv1 => ?_, ?_⟩; (· (go_simp; rfl)); simp only [Act.put, List.setIfInBounds_toArray, List.set_cons_zero, List.set_cons_succ]
    refine anyR_val Later.pre 54 rfl (by kernel_rfl) (by kernel_rfl) (by kernel_rfl) (fun _ _ _ _ h => h) rfl ?_; apply Exists.intro; refine ⟨fun v1 hv1 => ?_, ?_⟩; (· (go_simp; rfl)); simp only [Act.put, List.setIfInBounds_toArray, List.set_cons_zero, List.set_cons_succ]
    clear qP qT qQ qS qo qn
    refine anyR_done (by kernel_rfl) (fun V9 hV9 => ?_)
    go_wp2_with fail
    go_ret
    exact ⟨rfl, L4.trans (hV0.trans hV9)⟩
end Go.Proofs.YtdabhbadcbnkhaaDoor

/- The document's answer whether two segments are the same: where they are. -/
namespace Go.Proofs.YtdabhbadcbnkhaaDoor
open Go.RowKit Go.Shelf
set_option maxRecDepth 100000
set_option linter.unusedVariables false
set_option linter.unusedSimpArgs false

set_option maxHeartbeats 8000000 in
theorem rsameTcp_yes (sp dp sq ak fl wn ur : Int) (sO sm sO' sm' : Value) (os : List Opt) (zm : List Int) (w : World) (hI : RdO w.heap.size w sO os) (hI' : RdO w.heap.size w sO' os) (hM : Rd w.heap.size w sm zm) (hM' : Rd w.heap.size w sm' zm) :
    Calls Tryd.prog 23 #[.agg #[.int .u16 sp, .int .u16 dp, .int .u32 sq, .int .u32 ak, .int .u8 fl, .int .u16 wn, .int .u16 ur, sO, sm], .agg #[.int .u16 sp, .int .u16 dp, .int .u32 sq, .int .u32 ak, .int .u8 fl, .int .u16 wn, .int .u16 ur, sO', sm']] w fun e w' => e = .returned (.bool true) ∧ Below w.heap.size w w' := by
  obtain ⟨aO, cO, rfl, _, hcm⟩ := hI.slice
  obtain ⟨aP, cP, rfl, _, _⟩ := hI'.slice
  obtain ⟨am, cm, rfl, _, _⟩ := hM.slice
  obtain ⟨an, cn, rfl, _, _⟩ := hM'.slice
  have hbox : Below w.heap.size w ((w.alloc (.cells #[.int .u16 sp, .int .u16 dp, .int .u32 sq, .int .u32 ak, .int .u8 fl, .int .u16 wn, .int .u16 ur, .slice aO os.length cO, .slice am zm.length cm] 51)).alloc (.cells #[.int .u16 sp, .int .u16 dp, .int .u32 sq, .int .u32 ak, .int .u8 fl, .int .u16 wn, .int .u16 ur, .slice aP os.length cP, .slice an zm.length cn] 51)) := ((Below.refl w.heap.size w).alloc (Nat.le_refl _) _).alloc (by simp) _
  have s0 : ((w.alloc (.cells #[.int .u16 sp, .int .u16 dp, .int .u32 sq, .int .u32 ak, .int .u8 fl, .int .u16 wn, .int .u16 ur, .slice aO os.length cO, .slice am zm.length cm] 51)).alloc (.cells #[.int .u16 sp, .int .u16 dp, .int .u32 sq, .int .u32 ak, .int .u8 fl, .int .u16 wn, .int .u16 ur, .slice aP os.length cP, .slice an zm.length cn] 51)).heap[w.heap.size]? = some (.cells #[.int .u16 sp, .int .u16 dp, .int .u32 sq, .int .u32 ak, .int .u8 fl, .int .u16 wn, .int .u16 ur, .slice aO os.length cO, .slice am zm.length cm] 51) := (Below.heap_alloc _ _ _ (by simp)).trans (heap_alloc_new w _)
  have s1 : ((w.alloc (.cells #[.int .u16 sp, .int .u16 dp, .int .u32 sq, .int .u32 ak, .int .u8 fl, .int .u16 wn, .int .u16 ur, .slice aO os.length cO, .slice am zm.length cm] 51)).alloc (.cells #[.int .u16 sp, .int .u16 dp, .int .u32 sq, .int .u32 ak, .int .u8 fl, .int .u16 wn, .int .u16 ur, .slice aP os.length cP, .slice an zm.length cn] 51)).heap[w.heap.size + 1]? = some (.cells #[.int .u16 sp, .int .u16 dp, .int .u32 sq, .int .u32 ak, .int .u8 fl, .int .u16 wn, .int .u16 ur, .slice aP os.length cP, .slice an zm.length cn] 51) := by have := heap_alloc_new (w.alloc (.cells #[.int .u16 sp, .int .u16 dp, .int .u32 sq, .int .u32 ak, .int .u8 fl, .int .u16 wn, .int .u16 ur, .slice aO os.length cO, .slice am zm.length cm] 51)) (.cells #[.int .u16 sp, .int .u16 dp, .int .u32 sq, .int .u32 ak, .int .u8 fl, .int .u16 wn, .int .u16 ur, .slice aP os.length cP, .slice an zm.length cn] 51); simpa only [World.size_alloc] using this
  have S0 := hide s0
  have S1 := hide s1
  clear s0 s1
  go_enter Tryd.func23, Tryd.ntmps23
  go_upto_region 1 with fail
  generalize (w.alloc (.cells #[.int .u16 sp, .int .u16 dp, .int .u32 sq, .int .u32 ak, .int .u8 fl, .int .u16 wn, .int .u16 ur, .slice aO os.length cO, .slice am zm.length cm] 51)).alloc (.cells #[.int .u16 sp, .int .u16 dp, .int .u32 sq, .int .u32 ak, .int .u8 fl, .int .u16 wn, .int .u16 ur, .slice aP os.length cP, .slice an zm.length cn] 51) = W0 at *
  have K0 := block_cell S0.out
  have K1 := block_cell S1.out
  have ca := conv_rd 24 9 5 Tryd.underlying24 Tryd.underlying5 Tryd.underlying9 (hM.below hbox)
  have cb := conv_rd 24 9 5 Tryd.underlying24 Tryd.underlying5 Tryd.underlying9 (hM'.below hbox)
  have e0 : (sp != sp) = false := by simp
  have e1 : (dp != dp) = false := by simp
  have e2 : (sq != sq) = false := by simp
  have e3 : (ak != ak) = false := by simp
  have e4 : (fl != fl) = false := by simp
  have e5 : (wn != wn) = false := by simp
  have e6 : (ur != ur) = false := by simp
  have e7 : ((os.length : Int) != (os.length : Int)) = false := by simp
  go_upto_region 3 with fail
  clear ca cb e0 e1 e2 e3 e4 e5 e6 e7
  go_wp2_with fail
  go_loopw [5] (fun i wr => ∃ k : Nat, k ≤ os.length ∧ i = .int .i64 (k : Int) ∧ Later W0 wr) (fun i _ => os.length - (intOf i).toNat)
  case atStart => exact ⟨0, by omega, rfl, Later.refl _⟩
  case round =>
    obtain ⟨k, hk, rfl, hl⟩ := hrel
    have k0 := block_cell (later_keep hl S0.out)
    have k1 := block_cell (later_keep hl S1.out)
    have hbr := hbox.trans (hl.mono hbox.size)
    clear K0 K1
    by_cases hlt : k < os.length
    · obtain ⟨b, off, cp, e, _, _, hbb, hcs⟩ := (hI.below hbr).cells (by omega)
      simp at e
      obtain ⟨rfl, rfl⟩ := e
      obtain ⟨b', off', cp', e', _, _, hbb', hcs'⟩ := (hI'.below hbr).cells (by omega)
      simp at e'
      obtain ⟨rfl, rfl⟩ := e'
      obtain ⟨s, c0, c1, hRs⟩ := hcs k hlt
      obtain ⟨s', c0', c1', hRs'⟩ := hcs' k hlt
      clear hcs hcs'
      obtain ⟨sa, sc, rfl, _, _⟩ := hRs.slice
      obtain ⟨sb, sd, rfl, _, _⟩ := hRs'.slice
      generalize os[k]?.getD (0, []) = o at *
      obtain ⟨kd, dt⟩ := o
      dsimp only at c0 c1 hRs c0' c1' hRs'
      have hlt' : (k : Int) < os.length := by omega
      have ek : (kd != kd) = false := by simp
      go_upto_region 6 with fail
      refine anyR_begin Later.pre Later.drew 30 rfl (by kernel_rfl) (fun W2 hW2 => ?_)
      have q0 : ∀ v1, Later W2 v1 → ∀ i, v1.cell? ⟨w.heap.size, i, none⟩ = #[Value.int .u16 sp, .int .u16 dp, .int .u32 sq, .int .u32 ak, .int .u8 fl, .int .u16 wn, .int .u16 ur, .slice (some ⟨b, off, none⟩) os.length cO, .slice am zm.length cm][i]? := fun v1 h => block_cell (later_keep ((hl.trans hW2).trans h) S0.out)
      have q1 : ∀ v1, Later W2 v1 → ∀ i, v1.cell? ⟨w.heap.size + 1, i, none⟩ = #[Value.int .u16 sp, .int .u16 dp, .int .u32 sq, .int .u32 ak, .int .u8 fl, .int .u16 wn, .int .u16 ur, .slice (some ⟨b', off', none⟩) os.length cP, .slice an zm.length cn][i]? := fun v1 h => block_cell (later_keep ((hl.trans hW2).trans h) S1.out)
      have q2 : ∀ v1, Later W2 v1 → v1.cell? ⟨b, off + k * 2, none⟩ = some (.int .u8 kd) := fun v1 h => (hW2.trans h).cell c0
      have q3 : ∀ v1, Later W2 v1 → v1.cell? ⟨b, off + k * 2 + 1, none⟩ = some (.slice sa dt.length sc) := fun v1 h => (hW2.trans h).cell c1
      have q4 : ∀ v1, Later W2 v1 → v1.cell? ⟨b', off' + k * 2, none⟩ = some (.int .u8 kd) := fun v1 h => (hW2.trans h).cell c0'
      have q5 : ∀ v1, Later W2 v1 → v1.cell? ⟨b', off' + k * 2 + 1, none⟩ = some (.slice sb dt.length sd) := fun v1 h => (hW2.trans h).cell c1'
      have q6 : ∀ v1, Later W2 v1 → (convert 24 9 (.slice sa dt.length sc)).run Tryd.prog v1 = .ok (.string (strOfNums dt)) v1 := fun v1 h => conv_rd 24 9 5 Tryd.underlying24 Tryd.underlying5 Tryd.underlying9 (hRs.below (((hW2.trans h)).mono hbr.size))
      have q7 : ∀ v1, Later W2 v1 → (convert 24 9 (.slice sb dt.length sd)).run Tryd.prog v1 = .ok (.string (strOfNums dt)) v1 := fun v1 h => conv_rd 24 9 5 Tryd.underlying24 Tryd.underlying5 Tryd.underlying9 (hRs'.below (((hW2.trans h)).mono hbr.size))
      clear k0 k1 c0 c1 c0' c1'
      refine anyR_val Later.pre 0 rfl (by kernel_rfl) (by kernel_rfl) (by kernel_rfl) (fun _ _ _ _ h => h) rfl ?_; apply Exists.intro; refine ⟨fun w1 hw1 => ?_, ?_⟩; (· (go_simp; rfl)); simp only [Act.put, List.setIfInBounds_toArray, List.set_cons_zero, List.set_cons_succ]
      refine anyR_val Later.pre 1 rfl (by kernel_rfl) (by kernel_rfl) (by kernel_rfl) (fun _ _ _ _ h => h) rfl ?_; apply Exists.intro; refine ⟨fun w1 hw1 => ?_, ?_⟩; (· (go_simp; rfl)); simp only [Act.put, List.setIfInBounds_toArray, List.set_cons_zero, List.set_cons_succ]
      refine anyR_val Later.pre 2 rfl (by kernel_rfl) (by kernel_rfl) (by kernel_rfl) (fun _ _ _ _ h => h) rfl ?_; apply Exists.intro; refine ⟨fun w1 hw1 => ?_, ?_⟩; (· (go_simp; rfl)); simp only [Act.put, List.setIfInBounds_toArray, List.set_cons_zero, List.set_cons_succ]
      refine anyR_val Later.pre 3 rfl (by kernel_rfl) (by kernel_rfl) (by kernel_rfl) (fun _ _ _ _ h => h) rfl ?_; apply Exists.intro; refine ⟨fun w1 hw1 => ?_, ?_⟩; (· (go_simp; rfl)); simp only [Act.put, List.setIfInBounds_toArray, List.set_cons_zero, List.set_cons_succ]
      refine anyR_val Later.pre 4 rfl (by kernel_rfl) (by kernel_rfl) (by kernel_rfl) (fun _ _ _ _ h => h) rfl ?_; apply Exists.intro; refine ⟨fun w1 hw1 => ?_, ?_⟩; (· (go_simp; rfl)); simp only [Act.put, List.setIfInBounds_toArray, List.set_cons_zero, List.set_cons_succ]
      refine anyR_val Later.pre 5 rfl (by kernel_rfl) (by kernel_rfl) (by kernel_rfl) (fun _ _ _ _ h => h) rfl ?_; apply Exists.intro; refine ⟨fun w1 hw1 => ?_, ?_⟩; (· (go_simp; rfl)); simp only [Act.put, List.setIfInBounds_toArray, List.set_cons_zero, List.set_cons_succ]
      refine anyR_val Later.pre 6 rfl (by kernel_rfl) (by kernel_rfl) (by kernel_rfl) (fun _ _ _ _ h => h) rfl ?_; apply Exists.intro; refine ⟨fun w1 hw1 => ?_, ?_⟩; (· (go_simp; rfl)); simp only [Act.put, List.setIfInBounds_toArray, List.set_cons_zero, List.set_cons_succ]
      refine anyR_val Later.pre 7 rfl (by kernel_rfl) (by kernel_rfl) (by kernel_rfl) (fun _ _ _ _ h => h) rfl ?_; apply Exists.intro; refine ⟨fun w1 hw1 => ?_, ?_⟩; (· (go_simp; rfl)); simp only [Act.put, List.setIfInBounds_toArray, List.set_cons_zero, List.set_cons_succ]
      refine anyR_val Later.pre 8 rfl (by kernel_rfl) (by kernel_rfl) (by kernel_rfl) (fun _ _ _ _ h => h) rfl ?_; apply Exists.intro; refine ⟨fun w1 hw1 => ?_, ?_⟩; (· (go_simp; rfl)); simp only [Act.put, List.setIfInBounds_toArray, List.set_cons_zero, List.set_cons_succ]
      refine anyR_val Later.pre 9 rfl (by kernel_rfl) (by kernel_rfl) (by kernel_rfl) (fun _ _ _ _ h => h) rfl ?_; apply Exists.intro; refine ⟨fun w1 hw1 => ?_, ?_⟩; (· (go_simp; rfl)); simp only [Act.put, List.setIfInBounds_toArray, List.set_cons_zero, List.set_cons_succ]
      refine anyR_val Later.pre 10 rfl (by kernel_rfl) (by kernel_rfl) (by kernel_rfl) (fun _ _ _ _ h => h) rfl ?_; apply Exists.intro; refine ⟨fun w1 hw1 => ?_, ?_⟩; (· (go_simp; rfl)); simp only [Act.put, List.setIfInBounds_toArray, List.set_cons_zero, List.set_cons_succ]
      refine anyR_val Later.pre 11 rfl (by kernel_rfl) (by kernel_rfl) (by kernel_rfl) (fun _ _ _ _ h => h) rfl ?_; apply Exists.intro; refine ⟨fun w1 hw1 => ?_, ?_⟩; (· (go_simp; rfl)); simp only [Act.put, List.setIfInBounds_toArray, List.set_cons_zero, List.set_cons_succ]
      refine anyR_val Later.pre 12 rfl (by kernel_rfl) (by kernel_rfl) (by kernel_rfl) (fun _ _ _ _ h => h) rfl ?_; apply Exists.intro; refine ⟨fun w1 hw1 => ?_, ?_⟩; (· (go_simp; rfl)); simp only [Act.put, List.setIfInBounds_toArray, List.set_cons_zero, List.set_cons_succ]
      refine anyR_val Later.pre 13 rfl (by kernel_rfl) (by kernel_rfl) (by kernel_rfl) (fun _ _ _ _ h => h) rfl ?_; apply Exists.intro; refine ⟨fun w1 hw1 => ?_, ?_⟩; (· (go_simp; rfl)); simp only [Act.put, List.setIfInBounds_toArray, List.set_cons_zero, List.set_cons_succ]
      refine anyR_valG Later.pre 14 rfl (by kernel_rfl) (by kernel_rfl) (by kernel_rfl) (fun _ _ _ _ h => h) (by rfl) ?_; apply Exists.intro; refine ⟨fun w1 hw1 => ?_, ?_⟩; (· (go_simp; rfl)); simp only [Act.put, List.setIfInBounds_toArray, List.set_cons_zero, List.set_cons_succ]
      refine anyR_valG Later.pre 15 rfl (by kernel_rfl) (by kernel_rfl) (by kernel_rfl) (fun _ _ _ _ h => h) (by rfl) ?_; apply Exists.intro; refine ⟨fun w1 hw1 => ?_, ?_⟩; (· (go_simp; rfl)); simp only [Act.put, List.setIfInBounds_toArray, List.set_cons_zero, List.set_cons_succ]
      refine anyR_valG Later.pre 16 rfl (by kernel_rfl) (by kernel_rfl) (by kernel_rfl) (fun _ _ _ _ h => h) (by rfl) ?_; apply Exists.intro; refine ⟨fun w1 hw1 => ?_, ?_⟩; (· (go_simp; rfl)); simp only [Act.put, List.setIfInBounds_toArray, List.set_cons_zero, List.set_cons_succ]
      refine anyR_valG Later.pre 17 rfl (by kernel_rfl) (by kernel_rfl) (by kernel_rfl) (fun _ _ _ _ h => h) (by rfl) ?_; apply Exists.intro; refine ⟨fun w1 hw1 => ?_, ?_⟩; (· (go_simp; rfl)); simp only [Act.put, List.setIfInBounds_toArray, List.set_cons_zero, List.set_cons_succ]
      refine anyR_valG Later.pre 18 rfl (by kernel_rfl) (by kernel_rfl) (by kernel_rfl) (fun _ _ _ _ h => h) (by rfl) ?_; apply Exists.intro; refine ⟨fun w1 hw1 => ?_, ?_⟩; (· (go_simp; rfl)); simp only [Act.put, List.setIfInBounds_toArray, List.set_cons_zero, List.set_cons_succ]
      refine anyR_valG Later.pre 19 rfl (by kernel_rfl) (by kernel_rfl) (by kernel_rfl) (fun _ _ _ _ h => h) (by rfl) ?_; apply Exists.intro; refine ⟨fun w1 hw1 => ?_, ?_⟩; (· (go_simp; rfl)); simp only [Act.put, List.setIfInBounds_toArray, List.set_cons_zero, List.set_cons_succ]
      refine anyR_valG Later.pre 20 rfl (by kernel_rfl) (by kernel_rfl) (by kernel_rfl) (fun _ _ _ _ h => h) (by rfl) ?_; apply Exists.intro; refine ⟨fun w1 hw1 => ?_, ?_⟩; (· (go_simp; rfl)); simp only [Act.put, List.setIfInBounds_toArray, List.set_cons_zero, List.set_cons_succ]
      refine anyR_valG Later.pre 21 rfl (by kernel_rfl) (by kernel_rfl) (by kernel_rfl) (fun _ _ _ _ h => h) (by rfl) ?_; apply Exists.intro; refine ⟨fun w1 hw1 => ?_, ?_⟩; (· (go_simp; rfl)); simp only [Act.put, List.setIfInBounds_toArray, List.set_cons_zero, List.set_cons_succ]
      refine anyR_valG Later.pre 22 rfl (by kernel_rfl) (by kernel_rfl) (by kernel_rfl) (fun _ _ _ _ h => h) (by rfl) ?_; apply Exists.intro; refine ⟨fun w1 hw1 => ?_, ?_⟩; (· (go_simp; rfl)); simp only [Act.put, List.setIfInBounds_toArray, List.set_cons_zero, List.set_cons_succ]
      refine anyR_valG Later.pre 23 rfl (by kernel_rfl) (by kernel_rfl) (by kernel_rfl) (fun _ _ _ _ h => h) (by rfl) ?_; apply Exists.intro; refine ⟨fun w1 hw1 => ?_, ?_⟩; (· (go_simp; rfl)); simp only [Act.put, List.setIfInBounds_toArray, List.set_cons_zero, List.set_cons_succ]
      refine anyR_valG Later.pre 24 rfl (by kernel_rfl) (by kernel_rfl) (by kernel_rfl) (fun _ _ _ _ h => h) (by rfl) ?_; apply Exists.intro; refine ⟨fun w1 hw1 => ?_, ?_⟩; (· (go_simp; rfl)); simp only [Act.put, List.setIfInBounds_toArray, List.set_cons_zero, List.set_cons_succ]
      refine anyR_valG Later.pre 25 rfl (by kernel_rfl) (by kernel_rfl) (by kernel_rfl) (fun _ _ _ _ h => h) (by rfl) ?_; apply Exists.intro; refine ⟨fun w1 hw1 => ?_, ?_⟩; (· (go_simp; rfl)); simp only [Act.put, List.setIfInBounds_toArray, List.set_cons_zero, List.set_cons_succ]
      refine anyR_valG Later.pre 26 rfl (by kernel_rfl) (by kernel_rfl) (by kernel_rfl) (fun _ _ _ _ h => h) (by rfl) ?_; apply Exists.intro; refine ⟨fun w1 hw1 => ?_, ?_⟩; (· (go_simp; rfl)); simp only [Act.put, List.setIfInBounds_toArray, List.set_cons_zero, List.set_cons_succ]
      refine anyR_valG Later.pre 27 rfl (by kernel_rfl) (by kernel_rfl) (by kernel_rfl) (fun _ _ _ _ h => h) (by rfl) ?_; apply Exists.intro; refine ⟨fun w1 hw1 => ?_, ?_⟩; (· (go_simp; rfl)); simp only [Act.put, List.setIfInBounds_toArray, List.set_cons_zero, List.set_cons_succ]
      refine anyR_valG Later.pre 28 rfl (by kernel_rfl) (by kernel_rfl) (by kernel_rfl) (fun _ _ _ _ h => h) (by rfl) ?_; apply Exists.intro; refine ⟨fun w1 hw1 => ?_, ?_⟩; (· (go_simp; rfl)); simp only [Act.put, List.setIfInBounds_toArray, List.set_cons_zero, List.set_cons_succ]
      refine anyR_val Later.pre 29 rfl (by kernel_rfl) (by kernel_rfl) (by kernel_rfl) (fun _ _ _ _ h => h) rfl ?_; apply Exists.intro; refine ⟨fun w1 hw1 => ?_, ?_⟩; (· (go_simp; rfl)); simp only [Act.put, List.setIfInBounds_toArray, List.set_cons_zero, List.set_cons_succ]
      refine anyR_done (by kernel_rfl) (fun W8 hW8 => ?_)
      have hl8 := (hl.trans hW2).trans hW8
      clear q0 q1 q2 q3 q4 q5 q6 q7
      go_wp2_with fail
      go_roundw
      case rel => exact ⟨k + 1, by omega, by go_num, hl8⟩
      case measure => simp [intOf]; omega
    · go_wp2_with fail
      go_ret
      exact ⟨rfl, hbr⟩
end Go.Proofs.YtdabhbadcbnkhaaDoor

/- Whether two datagrams are the same; the document's answer. -/
namespace Go.Proofs.YtdabhbadcbnkhaaDoor
open Go.RowKit Go.Shelf
set_option maxRecDepth 100000
set_option linter.unusedVariables false
set_option linter.unusedSimpArgs false

/-- Are two datagrams the same? -/
def smU (sp1 : Int) (dp1 : Int) (bare1 : Bool) (sp2 : Int) (dp2 : Int) (bare2 : Bool) (zd1 zd2 : List Int) : Bool := sp1 == sp2 && (dp1 == dp2 && (bare1 == bare2 && (decide (zd1 = zd2))))
theorem smU_self (sp dp : Int) (bare : Bool) (zd : List Int) : smU sp dp bare sp dp bare zd zd = true := by simp [smU]

set_option maxHeartbeats 4000000 in
theorem rsameUdp_any (sp1 : Int) (dp1 : Int) (bare1 : Bool) (sp2 : Int) (dp2 : Int) (bare2 : Bool) (sd1 sd2 : Value) (zd1 zd2 : List Int) (w : World) (hD1 : Mt.By zd1) (hD2 : Mt.By zd2) (hI1 : Rd w.heap.size w sd1 zd1) (hI2 : Rd w.heap.size w sd2 zd2) :
    Calls Tryd.prog 24 #[.agg #[.int .u16 sp1, .int .u16 dp1, .bool bare1, sd1], .agg #[.int .u16 sp2, .int .u16 dp2, .bool bare2, sd2]] w fun e w' => e = .returned (.bool (smU sp1 dp1 bare1 sp2 dp2 bare2 zd1 zd2)) ∧ Below w.heap.size w w' := by
  have hbox : Below w.heap.size w ((w.alloc (.cells #[.int .u16 sp1, .int .u16 dp1, .bool bare1, sd1] 48)).alloc (.cells #[.int .u16 sp2, .int .u16 dp2, .bool bare2, sd2] 48)) := ((Below.refl w.heap.size w).alloc (Nat.le_refl _) _).alloc (by simp) _
  have HA := hide (hI1.below hbox)
  have HB := hide (hI2.below hbox)
  obtain ⟨ad1, cd1, rfl, _, _⟩ := hI1.slice
  obtain ⟨ad2, cd2, rfl, _, _⟩ := hI2.slice
  have HS : Hid (smU sp1 dp1 bare1 sp2 dp2 bare2 zd1 zd2 = (sp1 == sp2 && (dp1 == dp2 && (bare1 == bare2 && (decide (zd1 = zd2)))))) := rfl
  generalize smU sp1 dp1 bare1 sp2 dp2 bare2 zd1 zd2 = r at *
  clear hI1 hI2
  have ca := conv_rd 24 9 5 Tryd.underlying24 Tryd.underlying5 Tryd.underlying9 HA.out
  have cb := conv_rd 24 9 5 Tryd.underlying24 Tryd.underlying5 Tryd.underlying9 HB.out
  have HE := hide (str_eq hD1 hD2)
  cases h0 : (sp1 == sp2)
  · rw [h0] at HS
    go_enter Tryd.func24, Tryd.ntmps24
    go_wp2
    go_ret
    exact ⟨by rw [HS.out]; rfl, hbox⟩
  · rw [h0] at HS
    cases h1 : (dp1 == dp2)
    · rw [h1] at HS
      go_enter Tryd.func24, Tryd.ntmps24
      go_wp2
      go_ret
      exact ⟨by rw [HS.out]; rfl, hbox⟩
    · rw [h1] at HS
      cases h2 : (bare1 == bare2)
      · rw [h2] at HS
        go_enter Tryd.func24, Tryd.ntmps24
        go_wp2
        go_ret
        exact ⟨by rw [HS.out]; rfl, hbox⟩
      · rw [h2] at HS
        simp only [Bool.true_and] at HS
        go_enter Tryd.func24, Tryd.ntmps24
        go_wp2
        go_ret
        exact ⟨by rw [HS.out, ← HE.out]; rfl, hbox⟩

end Go.Proofs.YtdabhbadcbnkhaaDoor

/- Layer 10: alike, where both tell the same. -/
namespace Go.Proofs.YtdabhbadcbnkhaaDoor
open Go.RowKit Go.Shelf
set_option maxRecDepth 100000
set_option linter.unusedVariables false
set_option linter.unusedSimpArgs false

/-- Two segments, datagrams, messages, frames tell the same. -/
def SmT (x z : List Int) : Prop := (wat z 0 = wat x 0 ∧ wat z 2 = wat x 2 ∧ wat4 z 4 = wat4 x 4 ∧ wat4 z 8 = wat4 x 8) ∧ (z[13]?.getD 0 = x[13]?.getD 0 ∧ wat z 14 = wat x 14 ∧ wat z 18 = wat x 18) ∧ opts (hop z) = opts (hop x) ∧ z.drop (thd z).toNat = x.drop (thd x).toNat ∧ z.length - (thd z).toNat = x.length - (thd x).toNat
def SmU (x z : List Int) : Prop := wat z 0 = wat x 0 ∧ wat z 2 = wat x 2 ∧ (wat z 6 == 0) = (wat x 6 == 0) ∧ z.drop 8 = x.drop 8 ∧ z.length - 8 = x.length - 8
def SmI (x z : List Int) : Prop := z[0]?.getD 0 = x[0]?.getD 0 ∧ z[1]?.getD 0 = x[1]?.getD 0 ∧ wat4 z 4 = wat4 x 4 ∧ z.drop 8 = x.drop 8 ∧ z.length - 8 = x.length - 8
def SmG (x z : List Int) : Prop := getAt2 z 6 = getAt2 x 6 ∧ bgz z = bgz x ∧ gsq (bgz x) z = gsq (bgz x) x ∧ gak (bgz x) z = gak (bgz x) x ∧ z.drop (ghd (bgz x)) = x.drop (ghd (bgz x)) ∧ z.length - ghd (bgz x) = x.length - ghd (bgz x)

set_option maxHeartbeats 8000000 in
theorem alike_tcp (tos1 id1 ttl1 tos2 id2 ttl2 src dst : Int) (keep1 keep2 : Bool) (so1 so2 : Value) (sd1 sd2 : Value) (zo1 zo2 x z : List Int) (w : World) (hIo1 : Rd w.heap.size w so1 zo1) (hIo2 : Rd w.heap.size w so2 zo2) (hBx : Mt.By x) (hBz : Mt.By z) (hIx : Rd w.heap.size w sd1 x) (hIz : Rd w.heap.size w sd2 z) (hlx : 12 + x.length ≤ 1099511627776) (hlz : 12 + z.length ≤ 1099511627776) (hsr : 0 ≤ src ∧ src ≤ 4294967295) (hds : 0 ≤ dst ∧ dst ≤ 4294967295) (hpx : pte 6 src dst x = 0) (hpz : pte 6 src dst z = 0) (hm : SmT x z) :
    Calls Tryd.prog 12 #[.agg #[.int .u8 tos1, .int .u16 id1, .bool keep1, .int .u8 ttl1, .int .u8 6, .int .u32 src, .int .u32 dst, so1, sd1], .agg #[.int .u8 tos2, .int .u16 id2, .bool keep2, .int .u8 ttl2, .int .u8 6, .int .u32 src, .int .u32 dst, so2, sd2]] w fun e w' => e = .returned (.bool true) ∧ Later w w' := by
  obtain ⟨ao1, co1, rfl, _, _⟩ := hIo1.slice
  obtain ⟨ao2, co2, rfl, _, _⟩ := hIo2.slice
  obtain ⟨ad1, cd1, rfl, _, _⟩ := hIx.slice
  obtain ⟨ad2, cd2, rfl, _, _⟩ := hIz.slice
  have hb0 : Later w ((w.alloc (.cells #[.int .u8 tos1, .int .u16 id1, .bool keep1, .int .u8 ttl1, .int .u8 6, .int .u32 src, .int .u32 dst, .slice ao1 zo1.length co1, .slice ad1 x.length cd1] 26)).alloc (.cells #[.int .u8 tos2, .int .u16 id2, .bool keep2, .int .u8 ttl2, .int .u8 6, .int .u32 src, .int .u32 dst, .slice ao2 zo2.length co2, .slice ad2 z.length cd2] 26)) := ((Below.refl _ _).alloc (Nat.le_refl _) _).alloc (by simp) _
  have p0 : ((w.alloc (.cells #[.int .u8 tos1, .int .u16 id1, .bool keep1, .int .u8 ttl1, .int .u8 6, .int .u32 src, .int .u32 dst, .slice ao1 zo1.length co1, .slice ad1 x.length cd1] 26)).alloc (.cells #[.int .u8 tos2, .int .u16 id2, .bool keep2, .int .u8 ttl2, .int .u8 6, .int .u32 src, .int .u32 dst, .slice ao2 zo2.length co2, .slice ad2 z.length cd2] 26)).heap[w.heap.size]? = some (.cells #[.int .u8 tos1, .int .u16 id1, .bool keep1, .int .u8 ttl1, .int .u8 6, .int .u32 src, .int .u32 dst, .slice ao1 zo1.length co1, .slice ad1 x.length cd1] 26) := (Below.heap_alloc _ _ _ (by simp)).trans (heap_alloc_new w _)
  have q0 : ((w.alloc (.cells #[.int .u8 tos1, .int .u16 id1, .bool keep1, .int .u8 ttl1, .int .u8 6, .int .u32 src, .int .u32 dst, .slice ao1 zo1.length co1, .slice ad1 x.length cd1] 26)).alloc (.cells #[.int .u8 tos2, .int .u16 id2, .bool keep2, .int .u8 ttl2, .int .u8 6, .int .u32 src, .int .u32 dst, .slice ao2 zo2.length co2, .slice ad2 z.length cd2] 26)).heap[w.heap.size + 1]? = some (.cells #[.int .u8 tos2, .int .u16 id2, .bool keep2, .int .u8 ttl2, .int .u8 6, .int .u32 src, .int .u32 dst, .slice ao2 zo2.length co2, .slice ad2 z.length cd2] 26) := by
    have := heap_alloc_new (w.alloc (.cells #[.int .u8 tos1, .int .u16 id1, .bool keep1, .int .u8 ttl1, .int .u8 6, .int .u32 src, .int .u32 dst, .slice ao1 zo1.length co1, .slice ad1 x.length cd1] 26)) (.cells #[.int .u8 tos2, .int .u16 id2, .bool keep2, .int .u8 ttl2, .int .u8 6, .int .u32 src, .int .u32 dst, .slice ao2 zo2.length co2, .slice ad2 z.length cd2] 26)
    rw [World.size_alloc] at this
    exact this
  have P0 := hide p0
  have Q0 := hide q0
  have HM := hide hm
  clear p0 q0 hm
  go_enter Tryd.func12, Tryd.ntmps12
  go_upto_region 1 with fail
  generalize (w.alloc _).alloc _ = W0 at *
  have kP := block_cell P0.out
  have kQ := block_cell Q0.out
  have hIx0 := (hIx.below hb0).mono hb0.size
  have hIz0 := (hIz.below hb0).mono hb0.size
  have HX := hide (rparseTcp_any tos1 id1 ttl1 6 src dst keep1 (.slice ao1 zo1.length co1) _ x W0 hBx hIx0 hlx hsr hds)
  have HZ := hide (fun v (h : Later W0 v) => rparseTcp_any tos2 id2 ttl2 6 src dst keep2 (.slice ao2 zo2.length co2) _ z v hBz ((hIz0.below h).mono h.size) hlz hsr hds)
  have HPX := hide hpx
  have HPZ := hide hpz
  clear hpx hpz
  go_wp2_with fail
  refine HX.out.mono ?_
  rintro e w1 ⟨hb1, ⟨hf, _⟩ | ⟨hf, os, aO1, cO1, am1, cm1, hos, rfl, hO1, hD1⟩⟩
  · exact absurd HPX.out hf
  have l1 : Later W0 w1 := hb1
  obtain ⟨⟨m0, m2, m4, m8⟩, ⟨m13, m14, m18⟩, mo, md, mn⟩ := HM.out
  rw [m0, m2, m4, m8, m13, m14, m18, mn, md] at HZ
  rw [hos] at mo
  have MO := hide mo
  clear m0 m2 m4 m8 m13 m14 m18 mo md mn
  generalize wat x 0 = sp at *
  generalize wat x 2 = dp at *
  generalize wat4 x 4 = sq at *
  generalize wat4 x 8 = ak at *
  generalize x[13]?.getD 0 = fl at *
  generalize wat x 14 = wn at *
  generalize wat x 18 = ur at *
  generalize x.drop (thd x).toNat = zm at *
  generalize x.length - (thd x).toNat = n1 at *
  have K1 := hide (heap_alloc_new w1 (.cells #[.int .u16 sp, .int .u16 dp, .int .u32 sq, .int .u32 ak, .int .u8 fl, .int .u16 wn, .int .u16 ur, .slice aO1 os.length cO1, .slice am1 n1 cm1] 51))
  have l2 := later_alloc' w1 (.cells #[.int .u16 sp, .int .u16 dp, .int .u32 sq, .int .u32 ak, .int .u8 fl, .int .u16 wn, .int .u16 ur, .slice aO1 os.length cO1, .slice am1 n1 cm1] 51)
  have qQ := block_cell (((l1.trans l2).block (w.heap.size + 1) (Array.getElem?_eq_some_iff.1 Q0.out).1).trans Q0.out)
  clear kP kQ HX hf hb1
  go_upto_region 6 with fail
  generalize w1.alloc _ = w2 at *
  go_wp2_with fail
  refine (HZ.out w2 (l1.trans l2)).mono ?_
  rintro e w3 ⟨hb3, ⟨hf, _⟩ | ⟨hf, os3, aO3, cO3, am3, cm3, hos3, rfl, hO3, hD3⟩⟩
  · exact absurd HPZ.out hf
  have l3 : Later w2 w3 := hb3
  rw [MO.out] at hos3
  simp at hos3
  subst hos3
  have K3 := hide (heap_alloc_new w3 (.cells #[.int .u16 sp, .int .u16 dp, .int .u32 sq, .int .u32 ak, .int .u8 fl, .int .u16 wn, .int .u16 ur, .slice aO3 os.length cO3, .slice am3 n1 cm3] 51))
  have l4 := later_alloc' w3 (.cells #[.int .u16 sp, .int .u16 dp, .int .u32 sq, .int .u32 ak, .int .u8 fl, .int .u16 wn, .int .u16 ur, .slice aO3 os.length cO3, .slice am3 n1 cm3] 51)
  clear qQ HZ hf hb3
  go_upto_region 7 with fail
  generalize w3.alloc _ = w4 at *
  have k1 := block_cell (((l3.trans l4).block w1.heap.size (Array.getElem?_eq_some_iff.1 K1.out).1).trans K1.out)
  have k3 := block_cell K3.out
  have HS := hide (rsameTcp_yes sp dp sq ak fl wn ur (.slice aO1 os.length cO1) (.slice am1 n1 cm1) (.slice aO3 os.length cO3) (.slice am3 n1 cm3) os zm w4 ((hO1.later (l2.trans (l3.trans l4))).rd) ((hO3.later l4).rd) ((hD1.later (l2.trans (l3.trans l4))).rd) ((hD3.later l4).rd))
  go_wp2_with fail
  refine HS.out.mono ?_
  rintro e w5 ⟨rfl, l5⟩
  have L5 : Later w4 w5 := l5
  go_wp2_with fail
  go_ret
  exact ⟨rfl, hb0.trans (l1.trans (l2.trans (l3.trans (l4.trans L5))))⟩

set_option maxHeartbeats 8000000 in
theorem alike_udp (tos1 id1 ttl1 tos2 id2 ttl2 src dst : Int) (keep1 keep2 : Bool) (so1 so2 : Value) (sd1 sd2 : Value) (zo1 zo2 x z : List Int) (w : World) (hIo1 : Rd w.heap.size w so1 zo1) (hIo2 : Rd w.heap.size w so2 zo2) (hBx : Mt.By x) (hBz : Mt.By z) (hIx : Rd w.heap.size w sd1 x) (hIz : Rd w.heap.size w sd2 z) (hlx : 12 + x.length ≤ 1099511627776) (hlz : 12 + z.length ≤ 1099511627776) (hsr : 0 ≤ src ∧ src ≤ 4294967295) (hds : 0 ≤ dst ∧ dst ≤ 4294967295) (hpx : pue 17 src dst x = 0) (hpz : pue 17 src dst z = 0) (hm : SmU x z) :
    Calls Tryd.prog 12 #[.agg #[.int .u8 tos1, .int .u16 id1, .bool keep1, .int .u8 ttl1, .int .u8 17, .int .u32 src, .int .u32 dst, so1, sd1], .agg #[.int .u8 tos2, .int .u16 id2, .bool keep2, .int .u8 ttl2, .int .u8 17, .int .u32 src, .int .u32 dst, so2, sd2]] w fun e w' => e = .returned (.bool true) ∧ Later w w' := by
  obtain ⟨ao1, co1, rfl, _, _⟩ := hIo1.slice
  obtain ⟨ao2, co2, rfl, _, _⟩ := hIo2.slice
  obtain ⟨ad1, cd1, rfl, _, _⟩ := hIx.slice
  obtain ⟨ad2, cd2, rfl, _, _⟩ := hIz.slice
  have hb0 : Later w ((w.alloc (.cells #[.int .u8 tos1, .int .u16 id1, .bool keep1, .int .u8 ttl1, .int .u8 17, .int .u32 src, .int .u32 dst, .slice ao1 zo1.length co1, .slice ad1 x.length cd1] 26)).alloc (.cells #[.int .u8 tos2, .int .u16 id2, .bool keep2, .int .u8 ttl2, .int .u8 17, .int .u32 src, .int .u32 dst, .slice ao2 zo2.length co2, .slice ad2 z.length cd2] 26)) := ((Below.refl _ _).alloc (Nat.le_refl _) _).alloc (by simp) _
  have p0 : ((w.alloc (.cells #[.int .u8 tos1, .int .u16 id1, .bool keep1, .int .u8 ttl1, .int .u8 17, .int .u32 src, .int .u32 dst, .slice ao1 zo1.length co1, .slice ad1 x.length cd1] 26)).alloc (.cells #[.int .u8 tos2, .int .u16 id2, .bool keep2, .int .u8 ttl2, .int .u8 17, .int .u32 src, .int .u32 dst, .slice ao2 zo2.length co2, .slice ad2 z.length cd2] 26)).heap[w.heap.size]? = some (.cells #[.int .u8 tos1, .int .u16 id1, .bool keep1, .int .u8 ttl1, .int .u8 17, .int .u32 src, .int .u32 dst, .slice ao1 zo1.length co1, .slice ad1 x.length cd1] 26) := (Below.heap_alloc _ _ _ (by simp)).trans (heap_alloc_new w _)
  have q0 : ((w.alloc (.cells #[.int .u8 tos1, .int .u16 id1, .bool keep1, .int .u8 ttl1, .int .u8 17, .int .u32 src, .int .u32 dst, .slice ao1 zo1.length co1, .slice ad1 x.length cd1] 26)).alloc (.cells #[.int .u8 tos2, .int .u16 id2, .bool keep2, .int .u8 ttl2, .int .u8 17, .int .u32 src, .int .u32 dst, .slice ao2 zo2.length co2, .slice ad2 z.length cd2] 26)).heap[w.heap.size + 1]? = some (.cells #[.int .u8 tos2, .int .u16 id2, .bool keep2, .int .u8 ttl2, .int .u8 17, .int .u32 src, .int .u32 dst, .slice ao2 zo2.length co2, .slice ad2 z.length cd2] 26) := by
    have := heap_alloc_new (w.alloc (.cells #[.int .u8 tos1, .int .u16 id1, .bool keep1, .int .u8 ttl1, .int .u8 17, .int .u32 src, .int .u32 dst, .slice ao1 zo1.length co1, .slice ad1 x.length cd1] 26)) (.cells #[.int .u8 tos2, .int .u16 id2, .bool keep2, .int .u8 ttl2, .int .u8 17, .int .u32 src, .int .u32 dst, .slice ao2 zo2.length co2, .slice ad2 z.length cd2] 26)
    rw [World.size_alloc] at this
    exact this
  have P0 := hide p0
  have Q0 := hide q0
  have HM := hide hm
  clear p0 q0 hm
  go_enter Tryd.func12, Tryd.ntmps12
  go_upto_region 1 with fail
  generalize (w.alloc _).alloc _ = W0 at *
  have kP := block_cell P0.out
  have kQ := block_cell Q0.out
  have hIx0 := (hIx.below hb0).mono hb0.size
  have hIz0 := (hIz.below hb0).mono hb0.size
  have HX := hide (rparseUdp_any tos1 id1 ttl1 17 src dst keep1 (.slice ao1 zo1.length co1) _ x W0 hBx hIx0 (by omega) hsr hds)
  have HZ := hide (fun v (h : Later W0 v) => rparseUdp_any tos2 id2 ttl2 17 src dst keep2 (.slice ao2 zo2.length co2) _ z v hBz ((hIz0.below h).mono h.size) (by omega) hsr hds)
  have HPX := hide hpx
  have HPZ := hide hpz
  clear hpx hpz
  go_wp2_with fail
  refine HX.out.mono ?_
  rintro e w1 ⟨hb1, ⟨hf, _⟩ | ⟨hf, am1, cm1, rfl, hD1⟩⟩
  · exact absurd HPX.out hf
  have l1 : Later W0 w1 := hb1
  obtain ⟨m0, m2, m6, md, mn⟩ := HM.out
  rw [m0, m2, m6, mn, md] at HZ
  have hBm : Mt.By (x.drop 8) := hBx.drop 8
  clear m0 m2 m6 md mn
  generalize wat x 0 = sp at *
  generalize wat x 2 = dp at *
  generalize (wat x 6 == 0) = br at *
  generalize x.drop 8 = zm at *
  generalize x.length - 8 = n1 at *
  have K1 := hide (heap_alloc_new w1 (.cells #[.int .u16 sp, .int .u16 dp, .bool br, .slice am1 n1 cm1] 48))
  have l2 := later_alloc' w1 (.cells #[.int .u16 sp, .int .u16 dp, .bool br, .slice am1 n1 cm1] 48)
  have qQ := block_cell (((l1.trans l2).block (w.heap.size + 1) (Array.getElem?_eq_some_iff.1 Q0.out).1).trans Q0.out)
  clear kP kQ HX hf hb1
  go_upto_region 10 with fail
  generalize w1.alloc _ = w2 at *
  go_wp2_with fail
  refine (HZ.out w2 (l1.trans l2)).mono ?_
  rintro e w3 ⟨hb3, ⟨hf, _⟩ | ⟨hf, am3, cm3, rfl, hD3⟩⟩
  · exact absurd HPZ.out hf
  have l3 : Later w2 w3 := hb3
  have K3 := hide (heap_alloc_new w3 (.cells #[.int .u16 sp, .int .u16 dp, .bool br, .slice am3 n1 cm3] 48))
  have l4 := later_alloc' w3 (.cells #[.int .u16 sp, .int .u16 dp, .bool br, .slice am3 n1 cm3] 48)
  clear qQ HZ hf hb3
  go_upto_region 11 with fail
  generalize w3.alloc _ = w4 at *
  have k1 := block_cell (((l3.trans l4).block w1.heap.size (Array.getElem?_eq_some_iff.1 K1.out).1).trans K1.out)
  have k3 := block_cell K3.out
  have HS := hide (rsameUdp_any sp dp br sp dp br (.slice am1 n1 cm1) (.slice am3 n1 cm3) zm zm w4 hBm hBm ((hD1.later (l2.trans (l3.trans l4))).rd) ((hD3.later l4).rd))
  rw [show smU sp dp br sp dp br zm zm = true from by simp [smU]] at HS
  go_wp2_with fail
  refine HS.out.mono ?_
  rintro e w5 ⟨rfl, l5⟩
  have L5 : Later w4 w5 := l5
  go_wp2_with fail
  go_ret
  exact ⟨rfl, hb0.trans (l1.trans (l2.trans (l3.trans (l4.trans L5))))⟩

set_option maxHeartbeats 8000000 in
theorem alike_icmp (tos1 id1 ttl1 tos2 id2 ttl2 src dst : Int) (keep1 keep2 : Bool) (so1 so2 : Value) (sd1 sd2 : Value) (zo1 zo2 x z : List Int) (w : World) (hIo1 : Rd w.heap.size w so1 zo1) (hIo2 : Rd w.heap.size w so2 zo2) (hBx : Mt.By x) (hBz : Mt.By z) (hIx : Rd w.heap.size w sd1 x) (hIz : Rd w.heap.size w sd2 z) (hlx : 12 + x.length ≤ 1099511627776) (hlz : 12 + z.length ≤ 1099511627776) (hsr : 0 ≤ src ∧ src ≤ 4294967295) (hds : 0 ≤ dst ∧ dst ≤ 4294967295) (hpx : pie 1 x = 0) (hpz : pie 1 z = 0) (hm : SmI x z) :
    Calls Tryd.prog 12 #[.agg #[.int .u8 tos1, .int .u16 id1, .bool keep1, .int .u8 ttl1, .int .u8 1, .int .u32 src, .int .u32 dst, so1, sd1], .agg #[.int .u8 tos2, .int .u16 id2, .bool keep2, .int .u8 ttl2, .int .u8 1, .int .u32 src, .int .u32 dst, so2, sd2]] w fun e w' => e = .returned (.bool true) ∧ Later w w' := by
  obtain ⟨ao1, co1, rfl, _, _⟩ := hIo1.slice
  obtain ⟨ao2, co2, rfl, _, _⟩ := hIo2.slice
  obtain ⟨ad1, cd1, rfl, _, _⟩ := hIx.slice
  obtain ⟨ad2, cd2, rfl, _, _⟩ := hIz.slice
  have hb0 : Later w ((w.alloc (.cells #[.int .u8 tos1, .int .u16 id1, .bool keep1, .int .u8 ttl1, .int .u8 1, .int .u32 src, .int .u32 dst, .slice ao1 zo1.length co1, .slice ad1 x.length cd1] 26)).alloc (.cells #[.int .u8 tos2, .int .u16 id2, .bool keep2, .int .u8 ttl2, .int .u8 1, .int .u32 src, .int .u32 dst, .slice ao2 zo2.length co2, .slice ad2 z.length cd2] 26)) := ((Below.refl _ _).alloc (Nat.le_refl _) _).alloc (by simp) _
  have p0 : ((w.alloc (.cells #[.int .u8 tos1, .int .u16 id1, .bool keep1, .int .u8 ttl1, .int .u8 1, .int .u32 src, .int .u32 dst, .slice ao1 zo1.length co1, .slice ad1 x.length cd1] 26)).alloc (.cells #[.int .u8 tos2, .int .u16 id2, .bool keep2, .int .u8 ttl2, .int .u8 1, .int .u32 src, .int .u32 dst, .slice ao2 zo2.length co2, .slice ad2 z.length cd2] 26)).heap[w.heap.size]? = some (.cells #[.int .u8 tos1, .int .u16 id1, .bool keep1, .int .u8 ttl1, .int .u8 1, .int .u32 src, .int .u32 dst, .slice ao1 zo1.length co1, .slice ad1 x.length cd1] 26) := (Below.heap_alloc _ _ _ (by simp)).trans (heap_alloc_new w _)
  have q0 : ((w.alloc (.cells #[.int .u8 tos1, .int .u16 id1, .bool keep1, .int .u8 ttl1, .int .u8 1, .int .u32 src, .int .u32 dst, .slice ao1 zo1.length co1, .slice ad1 x.length cd1] 26)).alloc (.cells #[.int .u8 tos2, .int .u16 id2, .bool keep2, .int .u8 ttl2, .int .u8 1, .int .u32 src, .int .u32 dst, .slice ao2 zo2.length co2, .slice ad2 z.length cd2] 26)).heap[w.heap.size + 1]? = some (.cells #[.int .u8 tos2, .int .u16 id2, .bool keep2, .int .u8 ttl2, .int .u8 1, .int .u32 src, .int .u32 dst, .slice ao2 zo2.length co2, .slice ad2 z.length cd2] 26) := by
    have := heap_alloc_new (w.alloc (.cells #[.int .u8 tos1, .int .u16 id1, .bool keep1, .int .u8 ttl1, .int .u8 1, .int .u32 src, .int .u32 dst, .slice ao1 zo1.length co1, .slice ad1 x.length cd1] 26)) (.cells #[.int .u8 tos2, .int .u16 id2, .bool keep2, .int .u8 ttl2, .int .u8 1, .int .u32 src, .int .u32 dst, .slice ao2 zo2.length co2, .slice ad2 z.length cd2] 26)
    rw [World.size_alloc] at this
    exact this
  have P0 := hide p0
  have Q0 := hide q0
  have HM := hide hm
  clear p0 q0 hm
  go_enter Tryd.func12, Tryd.ntmps12
  go_upto_region 1 with fail
  generalize (w.alloc _).alloc _ = W0 at *
  have kP := block_cell P0.out
  have kQ := block_cell Q0.out
  have hIx0 := (hIx.below hb0).mono hb0.size
  have hIz0 := (hIz.below hb0).mono hb0.size
  have HX := hide (rparseIcmp_any tos1 id1 ttl1 1 src dst keep1 (.slice ao1 zo1.length co1) _ x W0 hBx hIx0 (by omega))
  have HZ := hide (fun v (h : Later W0 v) => rparseIcmp_any tos2 id2 ttl2 1 src dst keep2 (.slice ao2 zo2.length co2) _ z v hBz ((hIz0.below h).mono h.size) (by omega))
  have HPX := hide hpx
  have HPZ := hide hpz
  clear hpx hpz
  go_wp2_with fail
  refine HX.out.mono ?_
  rintro e w1 ⟨hb1, ⟨hf, _⟩ | ⟨hf, am1, cm1, rfl, hD1⟩⟩
  · exact absurd HPX.out hf
  have l1 : Later W0 w1 := hb1
  obtain ⟨m0, m1, m4, md, mn⟩ := HM.out
  rw [m0, m1, m4, mn, md] at HZ
  have hBm : Mt.By (x.drop 8) := hBx.drop 8
  clear m0 m1 m4 md mn
  generalize x[0]?.getD 0 = ty at *
  generalize x[1]?.getD 0 = cde at *
  generalize wat4 x 4 = rest at *
  generalize x.drop 8 = zm at *
  generalize x.length - 8 = n1 at *
  have K1 := hide (heap_alloc_new w1 (.cells #[.int .u8 ty, .int .u8 cde, .int .u32 rest, .slice am1 n1 cm1] 57))
  have l2 := later_alloc' w1 (.cells #[.int .u8 ty, .int .u8 cde, .int .u32 rest, .slice am1 n1 cm1] 57)
  have qQ := block_cell (((l1.trans l2).block (w.heap.size + 1) (Array.getElem?_eq_some_iff.1 Q0.out).1).trans Q0.out)
  clear kP kQ HX hf hb1
  go_upto_region 14 with fail
  generalize w1.alloc _ = w2 at *
  go_wp2_with fail
  refine (HZ.out w2 (l1.trans l2)).mono ?_
  rintro e w3 ⟨hb3, ⟨hf, _⟩ | ⟨hf, am3, cm3, rfl, hD3⟩⟩
  · exact absurd HPZ.out hf
  have l3 : Later w2 w3 := hb3
  have K3 := hide (heap_alloc_new w3 (.cells #[.int .u8 ty, .int .u8 cde, .int .u32 rest, .slice am3 n1 cm3] 57))
  have l4 := later_alloc' w3 (.cells #[.int .u8 ty, .int .u8 cde, .int .u32 rest, .slice am3 n1 cm3] 57)
  clear qQ HZ hf hb3
  go_upto_region 15 with fail
  generalize w3.alloc _ = w4 at *
  have k1 := block_cell (((l3.trans l4).block w1.heap.size (Array.getElem?_eq_some_iff.1 K1.out).1).trans K1.out)
  have k3 := block_cell K3.out
  have HS := hide (rsameIcmp_any ty cde rest ty cde rest (.slice am1 n1 cm1) (.slice am3 n1 cm3) zm zm w4 hBm hBm ((hD1.later (l2.trans (l3.trans l4))).rd) ((hD3.later l4).rd))
  rw [show smI ty cde rest ty cde rest zm zm = true from by simp [smI]] at HS
  go_wp2_with fail
  refine HS.out.mono ?_
  rintro e w5 ⟨rfl, l5⟩
  have L5 : Later w4 w5 := l5
  go_wp2_with fail
  go_ret
  exact ⟨rfl, hb0.trans (l1.trans (l2.trans (l3.trans (l4.trans L5))))⟩

set_option maxHeartbeats 8000000 in
theorem alike_gre (tos1 id1 ttl1 tos2 id2 ttl2 src dst : Int) (keep1 keep2 : Bool) (so1 so2 : Value) (sd1 sd2 : Value) (zo1 zo2 x z : List Int) (w : World) (hIo1 : Rd w.heap.size w so1 zo1) (hIo2 : Rd w.heap.size w so2 zo2) (hBx : Mt.By x) (hBz : Mt.By z) (hIx : Rd w.heap.size w sd1 x) (hIz : Rd w.heap.size w sd2 z) (hlx : 12 + x.length ≤ 1099511627776) (hlz : 12 + z.length ≤ 1099511627776) (hsr : 0 ≤ src ∧ src ≤ 4294967295) (hds : 0 ≤ dst ∧ dst ≤ 4294967295) (hpx : pge 47 x = 0) (hpz : pge 47 z = 0) (hm : SmG x z) :
    Calls Tryd.prog 12 #[.agg #[.int .u8 tos1, .int .u16 id1, .bool keep1, .int .u8 ttl1, .int .u8 47, .int .u32 src, .int .u32 dst, so1, sd1], .agg #[.int .u8 tos2, .int .u16 id2, .bool keep2, .int .u8 ttl2, .int .u8 47, .int .u32 src, .int .u32 dst, so2, sd2]] w fun e w' => e = .returned (.bool true) ∧ Later w w' := by
  obtain ⟨ao1, co1, rfl, _, _⟩ := hIo1.slice
  obtain ⟨ao2, co2, rfl, _, _⟩ := hIo2.slice
  obtain ⟨ad1, cd1, rfl, _, _⟩ := hIx.slice
  obtain ⟨ad2, cd2, rfl, _, _⟩ := hIz.slice
  have hb0 : Later w ((w.alloc (.cells #[.int .u8 tos1, .int .u16 id1, .bool keep1, .int .u8 ttl1, .int .u8 47, .int .u32 src, .int .u32 dst, .slice ao1 zo1.length co1, .slice ad1 x.length cd1] 26)).alloc (.cells #[.int .u8 tos2, .int .u16 id2, .bool keep2, .int .u8 ttl2, .int .u8 47, .int .u32 src, .int .u32 dst, .slice ao2 zo2.length co2, .slice ad2 z.length cd2] 26)) := ((Below.refl _ _).alloc (Nat.le_refl _) _).alloc (by simp) _
  have p0 : ((w.alloc (.cells #[.int .u8 tos1, .int .u16 id1, .bool keep1, .int .u8 ttl1, .int .u8 47, .int .u32 src, .int .u32 dst, .slice ao1 zo1.length co1, .slice ad1 x.length cd1] 26)).alloc (.cells #[.int .u8 tos2, .int .u16 id2, .bool keep2, .int .u8 ttl2, .int .u8 47, .int .u32 src, .int .u32 dst, .slice ao2 zo2.length co2, .slice ad2 z.length cd2] 26)).heap[w.heap.size]? = some (.cells #[.int .u8 tos1, .int .u16 id1, .bool keep1, .int .u8 ttl1, .int .u8 47, .int .u32 src, .int .u32 dst, .slice ao1 zo1.length co1, .slice ad1 x.length cd1] 26) := (Below.heap_alloc _ _ _ (by simp)).trans (heap_alloc_new w _)
  have q0 : ((w.alloc (.cells #[.int .u8 tos1, .int .u16 id1, .bool keep1, .int .u8 ttl1, .int .u8 47, .int .u32 src, .int .u32 dst, .slice ao1 zo1.length co1, .slice ad1 x.length cd1] 26)).alloc (.cells #[.int .u8 tos2, .int .u16 id2, .bool keep2, .int .u8 ttl2, .int .u8 47, .int .u32 src, .int .u32 dst, .slice ao2 zo2.length co2, .slice ad2 z.length cd2] 26)).heap[w.heap.size + 1]? = some (.cells #[.int .u8 tos2, .int .u16 id2, .bool keep2, .int .u8 ttl2, .int .u8 47, .int .u32 src, .int .u32 dst, .slice ao2 zo2.length co2, .slice ad2 z.length cd2] 26) := by
    have := heap_alloc_new (w.alloc (.cells #[.int .u8 tos1, .int .u16 id1, .bool keep1, .int .u8 ttl1, .int .u8 47, .int .u32 src, .int .u32 dst, .slice ao1 zo1.length co1, .slice ad1 x.length cd1] 26)) (.cells #[.int .u8 tos2, .int .u16 id2, .bool keep2, .int .u8 ttl2, .int .u8 47, .int .u32 src, .int .u32 dst, .slice ao2 zo2.length co2, .slice ad2 z.length cd2] 26)
    rw [World.size_alloc] at this
    exact this
  have P0 := hide p0
  have Q0 := hide q0
  have HM := hide hm
  clear p0 q0 hm
  go_enter Tryd.func12, Tryd.ntmps12
  go_upto_region 1 with fail
  generalize (w.alloc _).alloc _ = W0 at *
  have kP := block_cell P0.out
  have kQ := block_cell Q0.out
  have hIx0 := (hIx.below hb0).mono hb0.size
  have hIz0 := (hIz.below hb0).mono hb0.size
  have HX := hide (rparseGre_any tos1 id1 ttl1 47 src dst keep1 (.slice ao1 zo1.length co1) _ x W0 hBx hIx0 (by omega))
  have HZ := hide (fun v (h : Later W0 v) => rparseGre_any tos2 id2 ttl2 47 src dst keep2 (.slice ao2 zo2.length co2) _ z v hBz ((hIz0.below h).mono h.size) (by omega))
  have HPX := hide hpx
  have HPZ := hide hpz
  clear hpx hpz
  go_wp2_with fail
  refine HX.out.mono ?_
  rintro e w1 ⟨hb1, ⟨hf, _⟩ | ⟨hf, am1, cm1, rfl, hD1⟩⟩
  · exact absurd HPX.out hf
  have l1 : Later W0 w1 := hb1
  obtain ⟨m6, mb, mq, mk, md, mn⟩ := HM.out
  rw [m6, mb, mq, mk, mn, md] at HZ
  have hBm : Mt.By (x.drop (ghd (bgz x))) := hBx.drop _
  clear m6 mb mq mk md mn
  generalize getAt2 x 6 = cl at *
  generalize ghs (bgz x) = hs at *
  generalize gha (bgz x) = ha at *
  generalize gsq (bgz x) x = sq at *
  generalize gak (bgz x) x = ak at *
  generalize x.drop (ghd (bgz x)) = zm at *
  generalize x.length - ghd (bgz x) = n1 at *
  have K1 := hide (heap_alloc_new w1 (.cells #[.int .u16 cl, .bool hs, .bool ha, .int .u32 sq, .int .u32 ak, .slice am1 n1 cm1] 63))
  have l2 := later_alloc' w1 (.cells #[.int .u16 cl, .bool hs, .bool ha, .int .u32 sq, .int .u32 ak, .slice am1 n1 cm1] 63)
  have qQ := block_cell (((l1.trans l2).block (w.heap.size + 1) (Array.getElem?_eq_some_iff.1 Q0.out).1).trans Q0.out)
  clear kP kQ HX hf hb1
  go_upto_region 17 with fail
  generalize w1.alloc _ = w2 at *
  go_wp2_with fail
  refine (HZ.out w2 (l1.trans l2)).mono ?_
  rintro e w3 ⟨hb3, ⟨hf, _⟩ | ⟨hf, am3, cm3, rfl, hD3⟩⟩
  · exact absurd HPZ.out hf
  have l3 : Later w2 w3 := hb3
  have K3 := hide (heap_alloc_new w3 (.cells #[.int .u16 cl, .bool hs, .bool ha, .int .u32 sq, .int .u32 ak, .slice am3 n1 cm3] 63))
  have l4 := later_alloc' w3 (.cells #[.int .u16 cl, .bool hs, .bool ha, .int .u32 sq, .int .u32 ak, .slice am3 n1 cm3] 63)
  clear qQ HZ hf hb3
  go_upto_region 18 with fail
  generalize w3.alloc _ = w4 at *
  have k1 := block_cell (((l3.trans l4).block w1.heap.size (Array.getElem?_eq_some_iff.1 K1.out).1).trans K1.out)
  have k3 := block_cell K3.out
  have HS := hide (rsameGre_any cl sq ak cl sq ak hs ha hs ha (.slice am1 n1 cm1) (.slice am3 n1 cm3) zm zm w4 hBm hBm ((hD1.later (l2.trans (l3.trans l4))).rd) ((hD3.later l4).rd))
  rw [show smG cl hs ha sq ak cl hs ha sq ak zm zm = true from by simp [smG]] at HS
  go_wp2_with fail
  refine HS.out.mono ?_
  rintro e w5 ⟨rfl, l5⟩
  have L5 : Later w4 w5 := l5
  go_wp2_with fail
  go_ret
  exact ⟨rfl, hb0.trans (l1.trans (l2.trans (l3.trans (l4.trans L5))))⟩

end Go.Proofs.YtdabhbadcbnkhaaDoor

/- Layer 10: what is rewritten tells what it told, but for the tuple. -/
namespace Go.Proofs.YtdabhbadcbnkhaaDoor
open Go.RowKit Go.Shelf
set_option maxRecDepth 100000
set_option linter.unusedVariables false
set_option linter.unusedSimpArgs false

theorem smT_of {x y : List Int} (s d : Int) (hB : Mt.By x) (h : ∀ j, 4 ≤ j → j ≠ 16 → j ≠ 17 → y[j]? = x[j]?) (hl : y.length = x.length) (h20 : 20 ≤ x.length) (ht : 20 ≤ thd x) : SmT x (rwT s d (wat x 0) (wat x 2) y) := by
  have e : ∀ j, 4 ≤ j → j ≠ 16 → j ≠ 17 → (rwT s d (wat x 0) (wat x 2) y)[j]? = x[j]? := fun j h1 h2 h3 => (rwT_other _ _ _ _ _ _ h1 h2 h3).trans (h j h1 h2 h3)
  have et : thd (rwT s d (wat x 0) (wat x 2) y) = thd x := by unfold thd; rw [e 12 (by omega) (by omega) (by omega)]
  have hL : (rwT s d (wat x 0) (wat x 2) y).length = x.length := by rw [rwT_length, hl]
  refine ⟨⟨rwT_w0 _ _ _ _ _ (by omega) (wat_bd hB 0).1, rwT_w2 _ _ _ _ _ (by omega) (wat_bd hB 2).1, wat4_same (fun j h1 h2 => e j (by omega) (by omega) (by omega)), wat4_same (fun j h1 h2 => e j (by omega) (by omega) (by omega))⟩, ⟨by rw [e 13 (by omega) (by omega) (by omega)], wat_same (e 14 (by omega) (by omega) (by omega)) (e 15 (by omega) (by omega) (by omega)), wat_same (e 18 (by omega) (by omega) (by omega)) (e 19 (by omega) (by omega) (by omega))⟩, ?_, ?_, ?_⟩
  · have : hop (rwT s d (wat x 0) (wat x 2) y) = hop x := by unfold hop; rw [et, drop_same (fun j hj => e j (by omega) (by omega) (by omega))]
    rw [this]
  · rw [et]
    exact drop_same (fun j hj => e j (by omega) (by omega) (by omega))
  · rw [et, hL]
theorem smU_of {x y : List Int} (s d : Int) (hB : Mt.By x) (h : ∀ j, 4 ≤ j → j ≠ 6 → j ≠ 7 → y[j]? = x[j]?) (h6 : (wat y 6 == 0) = (wat x 6 == 0)) (hl : y.length = x.length) (h8 : 8 ≤ x.length) : SmU x (rwU s d (wat x 0) (wat x 2) y) := by
  have e : ∀ j, 4 ≤ j → j ≠ 6 → j ≠ 7 → (rwU s d (wat x 0) (wat x 2) y)[j]? = x[j]? := fun j h1 h2 h3 => (rwU_other _ _ _ _ _ _ h1 h2 h3).trans (h j h1 h2 h3)
  refine ⟨rwU_w0 _ _ _ _ _ (by omega) (wat_bd hB 0).1, rwU_w2 _ _ _ _ _ (by omega) (wat_bd hB 2).1, ?_, drop_same (fun j hj => e j (by omega) (by omega) (by omega)), by rw [rwU_length, hl]⟩
  rw [rwU_w6 _ _ _ _ _ (by omega), h6]
theorem smI_of {x y : List Int} (hB : Mt.By x) (h : ∀ j, j < 2 ∨ 6 ≤ j → y[j]? = x[j]?) (hl : y.length = x.length) (h8 : 8 ≤ x.length) : SmI x (rwI (wat x 4) y) := by
  have e : ∀ j, j < 2 ∨ 6 ≤ j → (rwI (wat x 4) y)[j]? = x[j]? := fun j h1 => (rwI_other _ _ _ h1).trans (h j h1)
  refine ⟨by rw [e 0 (by omega)], by rw [e 1 (by omega)], ?_, drop_same (fun j hj => e j (by omega)), by rw [rwI_length, hl]⟩
  unfold wat4
  rw [rwI_w4 _ _ (by omega) (wat_bd hB 4).1, wat_same (e 6 (by omega)) (e 7 (by omega))]
theorem gsq_same {n : Nat} {x z : List Int} (hl : z.length = x.length) (h : ∀ j, 8 ≤ j → z[j]? = x[j]?) : gsq n z = gsq n x ∧ gak n z = gak n x := by
  have e : ∀ p : Int, 8 ≤ p → getAt4 z p = getAt4 x p := fun p hp => by
    unfold getAt4
    rw [hl]
    split
    · exact wat4_same (fun j h1 h2 => h j (by omega))
    · rfl
  unfold gsq gak
  rw [e 8 (by omega), e 12 (by omega)]
  exact ⟨rfl, rfl⟩
theorem smG_of {x y : List Int} (hB : Mt.By x) (h : ∀ j, j ≠ 6 → j ≠ 7 → y[j]? = x[j]?) (hl : y.length = x.length) (h8 : 8 ≤ x.length) : SmG x (rwG (getAt2 x 6) y) := by
  have e : ∀ j, j ≠ 6 → j ≠ 7 → (rwG (getAt2 x 6) y)[j]? = x[j]? := fun j h1 h2 => (Mt.put2_other _ _ _ _ h1 h2).trans (h j h1 h2)
  have hL : (rwG (getAt2 x 6) y).length = x.length := by unfold rwG; rw [Mt.put2_length, hl]
  have g6 : getAt2 (rwG (getAt2 x 6) y) 6 = getAt2 x 6 := by
    rw [getAt2_lit _ 6 6 rfl (by omega), getAt2_lit x 6 6 rfl (by omega)]
    exact wat_put2 _ _ _ (by omega) (wat_bd hB 6).1
  have gb : bgz (rwG (getAt2 x 6) y) = bgz x := by unfold bgz; rw [e 0 (by omega) (by omega), e 1 (by omega) (by omega), e 2 (by omega) (by omega), e 3 (by omega) (by omega)]
  have gs := gsq_same (n := bgz x) hL (fun j hj => e j (by omega) (by omega))
  have hg := ghd_bd (bgz x)
  exact ⟨g6, gb, gs.1, gs.2, drop_same (fun j hj => e j (by omega) (by omega)), by rw [hL]⟩

/-- Two packets' data of a protocol tell the same. -/
def SmA (pr : Int) (x z : List Int) : Prop := (pr = 6 ∧ SmT x z) ∨ (pr = 17 ∧ SmU x z) ∨ (pr = 1 ∧ SmI x z) ∨ (pr = 47 ∧ SmG x z)
/-- Data that differ in what Rewrite changes alone. -/
def Off (pr : Int) (x y : List Int) : Prop := y.length = x.length ∧ ((pr = 6 → ∀ j, 4 ≤ j → j ≠ 16 → j ≠ 17 → y[j]? = x[j]?) ∧ (pr = 17 → (∀ j, 4 ≤ j → j ≠ 6 → j ≠ 7 → y[j]? = x[j]?) ∧ (wat y 6 == 0) = (wat x 6 == 0)) ∧ (pr = 1 → ∀ j, j < 2 ∨ 6 ≤ j → y[j]? = x[j]?) ∧ (pr = 47 → ∀ j, j ≠ 6 → j ≠ 7 → y[j]? = x[j]?))
theorem Off.refl (pr : Int) (x : List Int) : Off pr x x := ⟨rfl, fun _ _ _ _ _ => rfl, fun _ => ⟨fun _ _ _ _ => rfl, rfl⟩, fun _ _ _ => rfl, fun _ _ _ _ => rfl⟩
theorem Off.rw {pr src dst : Int} {x : List Int} (s d a b : Int) (ho : ofe pr src dst x = 0) (hB : Mt.By x) : Off pr x (rwD pr s d a b x) := by
  have h8 : pr = 17 → 8 ≤ x.length := fun e => by
    subst e
    unfold ofe at ho
    rw [if_neg (by omega), if_pos rfl] at ho
    exact (rwU_pue (s := 0) (d := 0) (a := 0) (b := 0) hB ho (by omega) (by omega) (by omega) (by omega)).2
  refine ⟨rwD_length .., fun e j h1 h2 h3 => ?_, fun e => ⟨fun j h1 h2 h3 => ?_, ?_⟩, fun e j h1 => ?_, fun e j h1 h2 => ?_⟩
  · subst e; unfold rwD; rw [if_pos rfl]; exact rwT_other _ _ _ _ _ _ h1 h2 h3
  · subst e; unfold rwD; rw [if_neg (by omega), if_pos rfl]; exact rwU_other _ _ _ _ _ _ h1 h2 h3
  · have := h8 e; subst e; unfold rwD; rw [if_neg (by omega), if_pos rfl]; exact rwU_w6 _ _ _ _ _ this
  · subst e; unfold rwD; rw [if_neg (by omega), if_neg (by omega), if_pos rfl]; exact rwI_other _ _ _ h1
  · subst e; unfold rwD; rw [if_neg (by omega), if_neg (by omega), if_neg (by omega)]; exact Mt.put2_other _ _ _ _ h1 h2
theorem smA_of {pr src dst : Int} {x y : List Int} (s d : Int) (ho : ofe pr src dst x = 0) (hB : Mt.By x) (h : Off pr x y) : SmA pr x (rwD pr s d (ofa pr x) (ofb pr x) y) := by
  obtain ⟨hl, h6, h17, h1, h47⟩ := h
  have hok := ho
  unfold ofe at ho
  by_cases c6 : pr = 6
  · subst c6
    rw [if_pos rfl] at ho
    obtain ⟨_, _, _, k1, k2⟩ := rwT_pte (s := 0) (d := 0) (a := 0) (b := 0) hB ho (by omega) (by omega) (by omega) (by omega)
    refine .inl ⟨rfl, ?_⟩
    unfold rwD
    rw [if_pos rfl]
    exact smT_of s d hB (h6 rfl) hl k1 k2
  rw [if_neg c6] at ho
  by_cases c17 : pr = 17
  · subst c17
    rw [if_pos rfl] at ho
    have k1 := (rwU_pue (s := 0) (d := 0) (a := 0) (b := 0) hB ho (by omega) (by omega) (by omega) (by omega)).2
    refine .inr (.inl ⟨rfl, ?_⟩)
    unfold rwD
    rw [if_neg c6, if_pos rfl]
    exact smU_of s d hB (h17 rfl).1 (h17 rfl).2 hl k1
  rw [if_neg c17] at ho
  by_cases c1 : pr = 1
  · subst c1
    rw [if_pos rfl] at ho
    have k1 := (rwI_oie (a := 0) hB ho (by omega)).2.2.2
    refine .inr (.inr (.inl ⟨rfl, ?_⟩))
    unfold rwD
    rw [if_neg c6, if_neg c17, if_pos rfl]
    exact smI_of hB (h1 rfl) hl k1
  rw [if_neg c1] at ho
  by_cases c47 : pr = 47
  · subst c47
    rw [if_pos rfl] at ho
    have k1 := (rwG_pge (b := 0) ho).2.2
    refine .inr (.inr (.inr ⟨rfl, ?_⟩))
    unfold rwD
    rw [if_neg c6, if_neg c17, if_neg c1]
    exact smG_of hB (h47 rfl) hl k1
  · rw [if_neg c47] at ho
    omega

theorem alike_any (tos1 id1 ttl1 tos2 id2 ttl2 pr src dst : Int) (keep1 keep2 : Bool) (so1 so2 sd1 sd2 : Value) (zo1 zo2 x z : List Int) (w : World) (hIo1 : Rd w.heap.size w so1 zo1) (hIo2 : Rd w.heap.size w so2 zo2) (hBx : Mt.By x) (hBz : Mt.By z) (hIx : Rd w.heap.size w sd1 x) (hIz : Rd w.heap.size w sd2 z) (hlx : 12 + x.length ≤ 1099511627776) (hlz : 12 + z.length ≤ 1099511627776) (hsr : 0 ≤ src ∧ src ≤ 4294967295) (hds : 0 ≤ dst ∧ dst ≤ 4294967295) (hox : ofe pr src dst x = 0) (hoz : ofe pr src dst z = 0) (hm : SmA pr x z) :
    Calls Tryd.prog 12 #[.agg #[.int .u8 tos1, .int .u16 id1, .bool keep1, .int .u8 ttl1, .int .u8 pr, .int .u32 src, .int .u32 dst, so1, sd1], .agg #[.int .u8 tos2, .int .u16 id2, .bool keep2, .int .u8 ttl2, .int .u8 pr, .int .u32 src, .int .u32 dst, so2, sd2]] w fun e w' => e = .returned (.bool true) ∧ Later w w' := by
  rcases hm with ⟨rfl, hm⟩ | ⟨rfl, hm⟩ | ⟨rfl, hm⟩ | ⟨rfl, hm⟩
  · exact alike_tcp tos1 id1 ttl1 tos2 id2 ttl2 src dst keep1 keep2 so1 so2 sd1 sd2 zo1 zo2 x z w hIo1 hIo2 hBx hBz hIx hIz hlx hlz hsr hds hox hoz hm
  · exact alike_udp tos1 id1 ttl1 tos2 id2 ttl2 src dst keep1 keep2 so1 so2 sd1 sd2 zo1 zo2 x z w hIo1 hIo2 hBx hBz hIx hIz hlx hlz hsr hds hox hoz hm
  · exact alike_icmp tos1 id1 ttl1 tos2 id2 ttl2 src dst keep1 keep2 so1 so2 sd1 sd2 zo1 zo2 x z w hIo1 hIo2 hBx hBz hIx hIz hlx hlz hsr hds (rwI_oie (a := 0) hBx hox (by omega)).2.2.1 (rwI_oie (a := 0) hBz hoz (by omega)).2.2.1 hm
  · exact alike_gre tos1 id1 ttl1 tos2 id2 ttl2 src dst keep1 keep2 so1 so2 sd1 sd2 zo1 zo2 x z w hIo1 hIo2 hBx hBz hIx hIz hlx hlz hsr hds hox hoz hm
end Go.Proofs.YtdabhbadcbnkhaaDoor

/- The walks of MangleSelf and MangleBack. -/
namespace Go.Proofs.YtdabhbadcbnkhaaDoor
open Go.RowKit Go.Shelf
set_option maxRecDepth 100000
set_option linter.unusedVariables false
set_option linter.unusedSimpArgs false

theorem getAt2_bd' {zs : List Int} (h : Mt.By zs) (p : Int) : 0 ≤ getAt2 zs p ∧ getAt2 zs p ≤ 65535 := by
  unfold getAt2; split
  · exact wat_bd h _
  · omega
theorem ofa_bd {zs : List Int} (pr : Int) (h : Mt.By zs) : 0 ≤ ofa pr zs ∧ ofa pr zs ≤ 65535 := by
  unfold ofa
  split
  · exact wat_bd h _
  split
  · exact wat_bd h _
  split
  · exact wat_bd h _
  · omega
theorem ofb_bd {zs : List Int} (pr : Int) (h : Mt.By zs) : 0 ≤ ofb pr zs ∧ ofb pr zs ≤ 65535 := by
  unfold ofb
  split
  · exact wat_bd h _
  split
  · exact wat_bd h _
  split
  · exact wat_bd h _
  · exact getAt2_bd' h _
theorem rwe_own {pr src dst : Int} {lo : Nat} {zd : List Int} (h : ofe pr src dst zd = 0) : rwe pr pr src dst lo zd = flt lo zd.length := by unfold rwe; rw [if_neg (by simp), if_neg (by simp [h])]
theorem rwe_no {pr tp src dst : Int} {lo : Nat} {zd : List Int} (h : ofe pr src dst zd ≠ 0) : rwe pr tp src dst lo zd ≠ 0 := by
  unfold rwe
  split
  · decide
  · first | exact h | (rw [if_pos h]; exact h)

set_option maxHeartbeats 16000000 in
theorem walk_MangleSelf (w : World) (hT : Tb w) (tos id ttl pr src dst : Int) (keep : Bool) (so sd : Value) (zo zd : List Int) (hBo : Mt.By zo) (hBd : Mt.By zd) (hIo : Rd w.heap.size w so zo) (hId : Rd w.heap.size w sd zd) (hlo : zo.length ≤ 140737488355328) (hld : zd.length ≤ 140737488355328)
    (ht : 0 ≤ tos ∧ tos ≤ 255) (hid : 0 ≤ id ∧ id ≤ 65535) (htt : 0 ≤ ttl ∧ ttl ≤ 255) (hpr : 0 ≤ pr ∧ pr ≤ 255) (hsr : 0 ≤ src ∧ src ≤ 4294967295) (hds : 0 ≤ dst ∧ dst ≤ 4294967295) (hsm : zd.length ≤ 1048576) :
    Calls Tryd.prog 4 #[.agg #[.int .u8 tos, .int .u16 id, .bool keep, .int .u8 ttl, .int .u8 pr, .int .u32 src, .int .u32 dst, so, sd]] w fun e w' => e = .returned (.bool true) ∧ Below w.heap.size w w' := by
  obtain ⟨ao, co, rfl, hlo1, hmo1⟩ := hIo.slice
  obtain ⟨ad, cd, rfl, hl1, hm1⟩ := hId.slice
  have L0 := later_alloc' w (.cells #[.int .u8 tos, .int .u16 id, .bool keep, .int .u8 ttl, .int .u8 pr, .int .u32 src, .int .u32 dst, .slice ao zo.length co, .slice ad zd.length cd] 26)
  have P0 := hide (heap_alloc_new w (.cells #[.int .u8 tos, .int .u16 id, .bool keep, .int .u8 ttl, .int .u8 pr, .int .u32 src, .int .u32 dst, .slice ao zo.length co, .slice ad zd.length cd] 26))
  go_enter Tryd.func4, Tryd.ntmps4
  go_upto_region 1 with fail
  generalize w.alloc _ = W0 at *
  have kP := block_cell P0.out
  have hIo0 := (hIo.below L0).mono L0.size
  have hId0 := (hId.below L0).mono L0.size
  have HOF := hide (rof_any tos id ttl pr src dst keep (.slice ao zo.length co) (.slice ad zd.length cd) zd W0 hBd hId0 (by omega) hsr hds)
  by_cases c0 : ofe pr src dst zd = 0
  case neg =>
    rw [otv_no c0] at HOF
    have t0 : (ofe pr src dst zd != 0) = true := by simp [c0]
    clear c0
    generalize ofe pr src dst zd = oe at *
    go_wp2_with fail
    refine HOF.out.mono ?_
    rintro e w1 ⟨hb1, rfl⟩
    have l1 : Later W0 w1 := hb1
    have l2 := later_alloc' w1 (.cells #[.int .u8 0, .int .u32 0, .int .u32 0, .int .u16 0, .int .u16 0] 28)
    clear kP HOF
    go_upto_region 3 with fail
    generalize w1.alloc _ = w2 at *
    have L2 : Later w w2 := L0.trans (l1.trans l2)
    go_wp2_with fail
    refine (live10_any w2 (hT.below L2 hT.pos)).mono ?_
    rintro e w3 ⟨rfl, l3⟩
    go_wp2_with fail
    go_ret
    exact ⟨rfl, L2.trans l3⟩
  rw [c0, otv_ok] at HOF
  have HSA := hide (smA_of src dst c0 hBd (Off.refl pr zd))
  have ha := ofa_bd pr hBd
  have hb := ofb_bd pr hBd
  have HTL := hide (rwD_tells (s := src) (d := dst) hBd c0 hsr hds ha hb)
  have HBR := hide (rwD_by (pr := pr) (s := src) (d := dst) hBd ha hb)
  have HLR := hide (rwD_length pr src dst (ofa pr zd) (ofb pr zd) zd)
  have HRW := hide (fun v (h : Later W0 v) => rewrite_any tos id ttl pr src dst keep (.slice ao zo.length co) (.slice ad zd.length cd) zo zd pr src dst (ofa pr zd) (ofb pr zd) v (hT.below (L0.trans h) hT.pos) hBo hBd ((hIo0.below h).mono h.size) ((hId0.below h).mono h.size) (by omega) (by omega) ht hid htt hpr hsr hds hsr hds ha hb)
  have HWE := hide (rwe_own (lo := zo.length) c0)
  have HC0 := hide c0
  clear c0
  generalize rwD pr src dst (ofa pr zd) (ofb pr zd) zd = zr at *
  generalize ofa pr zd = a at *
  generalize ofb pr zd = b at *
  rw [HWE.out] at HRW
  obtain ⟨fl, HFL⟩ : ∃ f, Hid (flt zo.length zd.length = f) := ⟨_, rfl⟩
  rw [HFL.out] at HRW
  go_wp2_with fail
  refine HOF.out.mono ?_
  rintro e w1 ⟨hb1, rfl⟩
  have l1 : Later W0 w1 := hb1
  have l2 := later_alloc' w1 (.cells #[.int .u8 pr, .int .u32 src, .int .u32 dst, .int .u16 a, .int .u16 b] 28)
  have KT := hide (heap_alloc_new w1 (.cells #[.int .u8 pr, .int .u32 src, .int .u32 dst, .int .u16 a, .int .u16 b] 28))
  clear kP HOF hb1
  go_upto_region 4 with fail
  generalize w1.alloc _ = w2 at *
  have kT := block_cell KT.out
  have kP := block_cell (((l1.trans l2).block w.heap.size (Array.getElem?_eq_some_iff.1 P0.out).1).trans P0.out)
  go_wp2_with fail
  refine (HRW.out w2 (l1.trans l2)).mono ?_
  rintro e w3 ⟨hb3, ⟨hf, rfl⟩ | ⟨hf, ao2, co2, ad2, cd2, rfl, hOo, hOd⟩⟩
  · have l3 : Later w2 w3 := hb3
    have t1 : (fl != 0) = true := by simp [hf]
    have HFN : Hid ((fl == 0) = false) := by show _ = _; simp [hf]
    rw [show (zpk.toArray) = #[.int .u8 0, .int .u16 0, .bool false, .int .u8 0, .int .u8 0, .int .u32 0, .int .u32 0, .slice none 0 0, .slice none 0 0] from rfl]
    have l4 := later_alloc' w3 (.cells #[.int .u8 0, .int .u16 0, .bool false, .int .u8 0, .int .u8 0, .int .u32 0, .int .u32 0, .slice none 0 0, .slice none 0 0] 26)
    clear kT kP hf hb3 HRW
    go_upto_region 6 with fail
    generalize w3.alloc _ = w4 at *
    have L4 : Later W0 w4 := l1.trans (l2.trans (l3.trans l4))
    go_wp2_with fail
    refine (live10_any w4 (hT.below (L0.trans L4) hT.pos)).mono ?_
    rintro e w5 ⟨rfl, l5⟩
    have kP := block_cell (((L4.trans l5).block w.heap.size (Array.getElem?_eq_some_iff.1 P0.out).1).trans P0.out)
    have HRI := hide (rright_any tos id ttl pr src dst keep ao ad zo.length co zd.length cd w5 (by omega) (by omega))
    rw [HFL.out, HFN.out] at HRI
    go_wp2_with fail
    refine HRI.out.mono ?_
    rintro e w6 ⟨rfl, l6⟩
    go_wp2_with fail
    go_ret
    exact ⟨rfl, L0.trans (L4.trans (l5.trans l6))⟩
  · have l3 : Later w2 w3 := hb3
    subst hf
    have l4 := later_alloc' w3 (.cells #[.int .u8 tos, .int .u16 id, .bool keep, .int .u8 ttl, .int .u8 pr, .int .u32 src, .int .u32 dst, .slice ao2 zo.length co2, .slice ad2 zd.length cd2] 26)
    have KQ := hide (heap_alloc_new w3 (.cells #[.int .u8 tos, .int .u16 id, .bool keep, .int .u8 ttl, .int .u8 pr, .int .u32 src, .int .u32 dst, .slice ao2 zo.length co2, .slice ad2 zd.length cd2] 26))
    clear kT kP hb3 HRW
    go_upto_region 7 with fail
    generalize w3.alloc _ = w4 at *
    have L4 : Later W0 w4 := l1.trans (l2.trans (l3.trans l4))
    go_wp2_with fail
    refine (live10_any w4 (hT.below (L0.trans L4) hT.pos)).mono ?_
    rintro e w5 ⟨rfl, l5⟩
    have kP := block_cell (((L4.trans l5).block w.heap.size (Array.getElem?_eq_some_iff.1 P0.out).1).trans P0.out)
    have kQ := block_cell ((l5.block w3.heap.size (Array.getElem?_eq_some_iff.1 KQ.out).1).trans KQ.out)
    have HAL := hide (alike_any tos id ttl tos id ttl pr src dst keep keep (.slice ao zo.length co) (.slice ao2 zo.length co2) (.slice ad zd.length cd) (.slice ad2 zd.length cd2) zo zo zd zr w5 ((hIo0.below (L4.trans l5)).mono (L4.trans l5).size) ((hOo.later (l4.trans l5)).rd) hBd HBR.out ((hId0.below (L4.trans l5)).mono (L4.trans l5).size) ((hOd.later (l4.trans l5)).rd) (by omega) (by rw [HLR.out]; omega) hsr hds HC0.out HTL.out.1 HSA.out)
    go_wp2_with fail
    refine HAL.out.mono ?_
    rintro e w6 ⟨rfl, l6⟩
    go_wp2_with fail
    go_ret
    exact ⟨rfl, L0.trans (L4.trans (l5.trans l6))⟩

set_option maxHeartbeats 16000000 in
theorem walk_MangleBack (w : World) (hT : Tb w) (tos id ttl pr src dst : Int) (keep : Bool) (so sd : Value) (zo zd : List Int) (hBo : Mt.By zo) (hBd : Mt.By zd) (hIo : Rd w.heap.size w so zo) (hId : Rd w.heap.size w sd zd) (hlo : zo.length ≤ 140737488355328) (hld : zd.length ≤ 140737488355328)
    (ht : 0 ≤ tos ∧ tos ≤ 255) (hid : 0 ≤ id ∧ id ≤ 65535) (htt : 0 ≤ ttl ∧ ttl ≤ 255) (hpr : 0 ≤ pr ∧ pr ≤ 255) (hsr : 0 ≤ src ∧ src ≤ 4294967295) (hds : 0 ≤ dst ∧ dst ≤ 4294967295)
    (tp s d a b : Int) (htp : 0 ≤ tp ∧ tp ≤ 255) (hs : 0 ≤ s ∧ s ≤ 4294967295) (hd : 0 ≤ d ∧ d ≤ 4294967295) (ha : 0 ≤ a ∧ a ≤ 65535) (hb : 0 ≤ b ∧ b ≤ 65535) (hsm : zd.length ≤ 1048576) :
    Calls Tryd.prog 5 #[.agg #[.int .u8 tos, .int .u16 id, .bool keep, .int .u8 ttl, .int .u8 pr, .int .u32 src, .int .u32 dst, so, sd], .agg #[.int .u8 tp, .int .u32 s, .int .u32 d, .int .u16 a, .int .u16 b]] w fun e w' => e = .returned (.bool true) ∧ Below w.heap.size w w' := by
  obtain ⟨ao, co, rfl, hlo1, hmo1⟩ := hIo.slice
  obtain ⟨ad, cd, rfl, hl1, hm1⟩ := hId.slice
  have hb0 : Below w.heap.size w ((w.alloc (.cells #[.int .u8 tos, .int .u16 id, .bool keep, .int .u8 ttl, .int .u8 pr, .int .u32 src, .int .u32 dst, .slice ao zo.length co, .slice ad zd.length cd] 26)).alloc (.cells #[.int .u8 tp, .int .u32 s, .int .u32 d, .int .u16 a, .int .u16 b] 28)) := ((Below.refl _ _).alloc (Nat.le_refl _) _).alloc (by simp) _
  have p0 : ((w.alloc (.cells #[.int .u8 tos, .int .u16 id, .bool keep, .int .u8 ttl, .int .u8 pr, .int .u32 src, .int .u32 dst, .slice ao zo.length co, .slice ad zd.length cd] 26)).alloc (.cells #[.int .u8 tp, .int .u32 s, .int .u32 d, .int .u16 a, .int .u16 b] 28)).heap[w.heap.size]? = some (.cells #[.int .u8 tos, .int .u16 id, .bool keep, .int .u8 ttl, .int .u8 pr, .int .u32 src, .int .u32 dst, .slice ao zo.length co, .slice ad zd.length cd] 26) := (Below.heap_alloc _ _ _ (by simp)).trans (heap_alloc_new w _)
  have t0 : ((w.alloc (.cells #[.int .u8 tos, .int .u16 id, .bool keep, .int .u8 ttl, .int .u8 pr, .int .u32 src, .int .u32 dst, .slice ao zo.length co, .slice ad zd.length cd] 26)).alloc (.cells #[.int .u8 tp, .int .u32 s, .int .u32 d, .int .u16 a, .int .u16 b] 28)).heap[w.heap.size + 1]? = some (.cells #[.int .u8 tp, .int .u32 s, .int .u32 d, .int .u16 a, .int .u16 b] 28) := by
    have := heap_alloc_new (w.alloc (.cells #[.int .u8 tos, .int .u16 id, .bool keep, .int .u8 ttl, .int .u8 pr, .int .u32 src, .int .u32 dst, .slice ao zo.length co, .slice ad zd.length cd] 26)) (.cells #[.int .u8 tp, .int .u32 s, .int .u32 d, .int .u16 a, .int .u16 b] 28)
    rw [World.size_alloc] at this
    exact this
  have P0 := hide p0
  have T0 := hide t0
  clear p0 t0
  go_enter Tryd.func5, Tryd.ntmps5
  go_upto_region 1 with fail
  generalize (w.alloc _).alloc _ = W0 at *
  have L0 : Later w W0 := hb0
  have kP := block_cell P0.out
  have hIo0 := (hIo.below L0).mono L0.size
  have hId0 := (hId.below L0).mono L0.size
  have HOF := hide (rof_any tos id ttl pr src dst keep (.slice ao zo.length co) (.slice ad zd.length cd) zd W0 hBd hId0 (by omega) hsr hds)
  have HRW := hide (fun v (h : Later W0 v) => rewrite_any tos id ttl pr src dst keep (.slice ao zo.length co) (.slice ad zd.length cd) zo zd tp s d a b v (hT.below (L0.trans h) hT.pos) hBo hBd ((hIo0.below h).mono h.size) ((hId0.below h).mono h.size) (by omega) (by omega) ht hid htt hpr hsr hds hs hd ha hb)
  have hoa := ofa_bd pr hBd
  have hob := ofb_bd pr hBd
  have HOT : Hid (∃ x1 x2 x3 x4 x5, otv (ofe pr src dst zd) pr src dst (ofa pr zd) (ofb pr zd) = .agg #[.int .u8 x1, .int .u32 x2, .int .u32 x3, .int .u16 x4, .int .u16 x5] ∧ (ofe pr src dst zd = 0 → x1 = pr ∧ x2 = src ∧ x3 = dst ∧ x4 = ofa pr zd ∧ x5 = ofb pr zd)) := by
    by_cases c : ofe pr src dst zd = 0
    · exact ⟨_, _, _, _, _, by rw [c]; exact otv_ok .., fun _ => ⟨rfl, rfl, rfl, rfl, rfl⟩⟩
    · exact ⟨_, _, _, _, _, otv_no c .., fun e => absurd e c⟩
  obtain ⟨x1, x2, x3, x4, x5, HXE, HXO⟩ := HOT.out
  rw [HXE] at HOF
  clear HXE HOT
  obtain ⟨oe, HOE⟩ : ∃ e, Hid (ofe pr src dst zd = e) := ⟨_, rfl⟩
  obtain ⟨re, HRE⟩ : ∃ e, Hid (rwe pr tp src dst zo.length zd = e) := ⟨_, rfl⟩
  have HXO2 := hide HXO
  clear HXO
  rw [HOE.out] at HOF HXO2
  rw [HRE.out] at HRW
  go_wp2_with fail
  refine HOF.out.mono ?_
  rintro e w1 ⟨hb1, rfl⟩
  have l1 : Later W0 w1 := hb1
  have l2 := later_alloc' w1 (.cells #[.int .u8 x1, .int .u32 x2, .int .u32 x3, .int .u16 x4, .int .u16 x5] 28)
  have KX := hide (heap_alloc_new w1 (.cells #[.int .u8 x1, .int .u32 x2, .int .u32 x3, .int .u16 x4, .int .u16 x5] 28))
  clear kP HOF hb1
  go_upto_region 2 with fail
  generalize w1.alloc _ = w2 at *
  have kT := block_cell (((l1.trans l2).block (w.heap.size + 1) (Array.getElem?_eq_some_iff.1 T0.out).1).trans T0.out)
  have kP := block_cell (((l1.trans l2).block w.heap.size (Array.getElem?_eq_some_iff.1 P0.out).1).trans P0.out)
  go_wp2_with fail
  refine (HRW.out w2 (l1.trans l2)).mono ?_
  rintro e w3 ⟨hb3, ⟨hf, rfl⟩ | ⟨hf, ao2, co2, ad2, cd2, rfl, hOo, hOd⟩⟩
  · have l3 : Later w2 w3 := hb3
    have t1 : (re != 0) = true := by simp [hf]
    rw [show (zpk.toArray) = #[.int .u8 0, .int .u16 0, .bool false, .int .u8 0, .int .u8 0, .int .u32 0, .int .u32 0, .slice none 0 0, .slice none 0 0] from rfl]
    have l4 := later_alloc' w3 (.cells #[.int .u8 0, .int .u16 0, .bool false, .int .u8 0, .int .u8 0, .int .u32 0, .int .u32 0, .slice none 0 0, .slice none 0 0] 26)
    clear kT kP hf hb3 HRW HXO2
    go_upto_region 3 with fail
    generalize w3.alloc _ = w4 at *
    have L4 : Later W0 w4 := l1.trans (l2.trans (l3.trans l4))
    have HLV := hide (live10_any w4 (hT.below (L0.trans L4) hT.pos))
    by_cases c : oe = 0
    · have t2 : (oe != 0) = false := by simp [c]
      clear c
      go_wp2_with fail
      refine HLV.out.mono ?_
      rintro e w5 ⟨rfl, l5⟩
      go_wp2_with fail
      go_ret
      exact ⟨rfl, L0.trans (L4.trans l5)⟩
    · have t2 : (oe != 0) = true := by simp [c]
      clear c
      go_wp2_with fail
      refine HLV.out.mono ?_
      rintro e w5 ⟨rfl, l5⟩
      go_wp2_with fail
      go_ret
      exact ⟨rfl, L0.trans (L4.trans l5)⟩
  have l3 : Later w2 w3 := hb3
  subst hf
  obtain ⟨hpt, hoe, hfl⟩ := rwe_zero HRE.out
  subst hpt
  have ho0 : oe = 0 := by rw [← HOE.out]; exact hoe
  subst ho0
  obtain ⟨e1, e2, e3, e4, e5⟩ := HXO2.out rfl
  replace e1 := e1.symm
  replace e2 := e2.symm
  replace e3 := e3.symm
  replace e4 := e4.symm
  replace e5 := e5.symm
  subst e1 e2 e3 e4 e5
  have HTL := hide (rwD_tells (s := s) (d := d) (a := a) (b := b) hBd hoe hs hd ha hb)
  have HBR := hide (rwD_by (pr := pr) (s := s) (d := d) hBd ha hb)
  have HLR := hide (rwD_length pr s d a b zd)
  have HSA := hide (smA_of src dst hoe hBd (Off.rw s d a b hoe hBd))
  have HTL2 := hide (rwD_tells (s := src) (d := dst) HBR.out HTL.out.1 hsr hds hoa hob)
  have HBR2 := hide (rwD_by (pr := pr) (s := src) (d := dst) HBR.out hoa hob)
  have HLR2 := hide (rwD_length pr src dst (ofa pr zd) (ofb pr zd) (rwD pr s d a b zd))
  have HRE2 : Hid (rwe pr pr s d zo.length (rwD pr s d a b zd) = 0) := by show _ = _; rw [rwe_own HTL.out.1, HLR.out, hfl]
  have HC0 := hide hoe
  generalize ofa pr zd = oa at *
  generalize ofb pr zd = ob at *
  generalize rwD pr s d a b zd = zr at *
  have l4 := later_alloc' w3 (.cells #[.int .u8 tos, .int .u16 id, .bool keep, .int .u8 ttl, .int .u8 pr, .int .u32 s, .int .u32 d, .slice ao2 zo.length co2, .slice ad2 zd.length cd2] 26)
  have KQ := hide (heap_alloc_new w3 (.cells #[.int .u8 tos, .int .u16 id, .bool keep, .int .u8 ttl, .int .u8 pr, .int .u32 s, .int .u32 d, .slice ao2 zo.length co2, .slice ad2 zd.length cd2] 26))
  clear kT kP hb3 HRW hoe hfl
  go_upto_region 3 with fail
  generalize w3.alloc _ = w4 at *
  have L4 : Later W0 w4 := l1.trans (l2.trans (l3.trans l4))
  have HR2 := hide (rewrite_any tos id ttl pr s d keep (.slice ao2 zo.length co2) (.slice ad2 zd.length cd2) zo zr pr src dst oa ob w4 (hT.below (L0.trans L4) hT.pos) hBo HBR.out ((hOo.later l4).rd) ((hOd.later l4).rd) (by omega) (by rw [HLR.out]; omega) ht hid htt hpr hs hd hsr hds hoa hob)
  have kX := block_cell (((l3.trans l4).block w1.heap.size (Array.getElem?_eq_some_iff.1 KX.out).1).trans KX.out)
  have kQ := block_cell KQ.out
  go_wp2_with fail
  refine HR2.out.mono ?_
  rintro e w5 ⟨hb5, ⟨hf, _⟩ | ⟨hf, ao5, co5, ad5, cd5, rfl, hOo5, hOd5⟩⟩
  · exact absurd HRE2.out hf
  have l5 : Later w4 w5 := hb5
  have l6 := later_alloc' w5 (.cells #[.int .u8 tos, .int .u16 id, .bool keep, .int .u8 ttl, .int .u8 pr, .int .u32 src, .int .u32 dst, .slice ao5 zo.length co5, .slice ad5 zr.length cd5] 26)
  have KR := hide (heap_alloc_new w5 (.cells #[.int .u8 tos, .int .u16 id, .bool keep, .int .u8 ttl, .int .u8 pr, .int .u32 src, .int .u32 dst, .slice ao5 zo.length co5, .slice ad5 zr.length cd5] 26))
  clear kX kQ HR2 hf hb5
  go_upto_region 6 with fail
  generalize w5.alloc _ = w6 at *
  have L6 : Later W0 w6 := L4.trans (l5.trans l6)
  go_wp2_with fail
  refine (live10_any w6 (hT.below (L0.trans L6) hT.pos)).mono ?_
  rintro e w7 ⟨rfl, l7⟩
  have kP := block_cell (((L6.trans l7).block w.heap.size (Array.getElem?_eq_some_iff.1 P0.out).1).trans P0.out)
  have kR := block_cell ((l7.block w5.heap.size (Array.getElem?_eq_some_iff.1 KR.out).1).trans KR.out)
  have HAL := hide (alike_any tos id ttl tos id ttl pr src dst keep keep (.slice ao zo.length co) (.slice ao5 zo.length co5) (.slice ad zd.length cd) (.slice ad5 zr.length cd5) zo zo zd (rwD pr src dst oa ob zr) w7 ((hIo0.below (L6.trans l7)).mono (L6.trans l7).size) ((hOo5.later (l6.trans l7)).rd) hBd HBR2.out ((hId0.below (L6.trans l7)).mono (L6.trans l7).size) ((hOd5.later (l6.trans l7)).rd) (by omega) (by rw [HLR2.out, HLR.out]; omega) hsr hds HC0.out HTL2.out.1 HSA.out)
  go_wp2_with fail
  refine HAL.out.mono ?_
  rintro e w8 ⟨rfl, l8⟩
  go_wp2_with fail
  go_ret
  exact ⟨rfl, L0.trans (L6.trans (l7.trans l8))⟩
end Go.Proofs.YtdabhbadcbnkhaaDoor
