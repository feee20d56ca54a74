/- The document's answers for packets: Right, Same, header, Build. -/
import Derived.Test.YtcdeiakeiehaaaaDoorV5
import Derived.Test.YtcdeiakeiehaaaaDoorWA
namespace Go.Proofs.YtcdeiakeiehaaaaDoor
open Go.RowKit Go.Shelf
set_option maxRecDepth 100000
set_option linter.unusedVariables false

set_option maxHeartbeats 1000000 in
theorem rright_any (tos id ttl proto src dst : Int) (keep : Bool) (ao ad : Option Addr) (lo co ld cd : Nat) (w : World) (h1 : lo ≤ 140737488355328) (h2 : ld ≤ 140737488355328) :
    Calls Tryd.prog 14 #[.agg #[.int .u8 tos, .int .u16 id, .bool keep, .int .u8 ttl, .int .u8 proto, .int .u32 src, .int .u32 dst, .slice ao lo co, .slice ad ld cd]] w fun e w' => e = .returned (.bool (flt lo ld == 0)) ∧ Below w.heap.size w w' := by
  have hbox : Below w.heap.size w (w.alloc (.cells #[.int .u8 tos, .int .u16 id, .bool keep, .int .u8 ttl, .int .u8 proto, .int .u32 src, .int .u32 dst, .slice ao lo co, .slice ad ld cd] 26)) := (Below.refl _ _).alloc (Nat.le_refl _) _
  by_cases c1 : lo ≤ 40
  · have t1 : (lo : Int) ≤ 40 := by omega
    by_cases c2 : lo % 4 = 0
    · have t2 : ((lo : Int) % 4 == 0) = true := by simp; omega
      by_cases c3 : 20 + lo + ld ≤ 65535
      · have t3 : (20 : Int) + lo + ld ≤ 65535 := by omega
        have HF : Hid (flt lo ld = 0) := by show _ = _; unfold flt; rw [if_neg (by omega), if_neg (by omega)]
        clear c1 c2 c3
        go_enter Tryd.func14, Tryd.ntmps14
        go_wp2
        go_ret
        exact ⟨by rw [HF.out]; rfl, hbox⟩
      · have t3 : ¬ (20 : Int) + lo + ld ≤ 65535 := by omega
        have HF : Hid (flt lo ld = 8) := by show _ = _; unfold flt; rw [if_neg (by omega), if_pos (by omega)]
        clear c1 c2 c3
        go_enter Tryd.func14, Tryd.ntmps14
        go_wp2
        go_ret
        exact ⟨by rw [HF.out]; rfl, hbox⟩
    · have t2 : ((lo : Int) % 4 == 0) = false := by simp; omega
      have HF : Hid (flt lo ld = 4) := by show _ = _; unfold flt; rw [if_pos (by omega)]
      clear c1 c2
      go_enter Tryd.func14, Tryd.ntmps14
      go_wp2
      go_ret
      exact ⟨by rw [HF.out]; rfl, hbox⟩
  · have t1 : ¬ (lo : Int) ≤ 40 := by omega
    have HF : Hid (flt lo ld = 4) := by show _ = _; unfold flt; rw [if_pos (by omega)]
    clear c1
    go_enter Tryd.func14, Tryd.ntmps14
    go_wp2
    go_ret
    exact ⟨by rw [HF.out]; rfl, hbox⟩

set_option maxHeartbeats 4000000 in
theorem rsame_any (tos1 id1 ttl1 proto1 src1 dst1 tos2 id2 ttl2 proto2 src2 dst2 : Int) (keep1 keep2 : Bool) (so1 sd1 so2 sd2 : Value) (zo1 zd1 zo2 zd2 : List Int) (w : World)
    (hO1 : Mt.By zo1) (hD1 : Mt.By zd1) (hO2 : Mt.By zo2) (hD2 : Mt.By zd2) (hIo1 : Rd w.heap.size w so1 zo1) (hId1 : Rd w.heap.size w sd1 zd1) (hIo2 : Rd w.heap.size w so2 zo2) (hId2 : Rd w.heap.size w sd2 zd2) :
    Calls Tryd.prog 11 #[.agg #[.int .u8 tos1, .int .u16 id1, .bool keep1, .int .u8 ttl1, .int .u8 proto1, .int .u32 src1, .int .u32 dst1, so1, sd1], .agg #[.int .u8 tos2, .int .u16 id2, .bool keep2, .int .u8 ttl2, .int .u8 proto2, .int .u32 src2, .int .u32 dst2, so2, sd2]] w fun e w' => e = .returned (.bool (smP tos1 id1 ttl1 proto1 src1 dst1 tos2 id2 ttl2 proto2 src2 dst2 keep1 keep2 zo1 zd1 zo2 zd2)) ∧ Below w.heap.size w w' := by
  have hbox := ((Below.refl w.heap.size w).alloc (Nat.le_refl _) (.cells #[.int .u8 tos1, .int .u16 id1, .bool keep1, .int .u8 ttl1, .int .u8 proto1, .int .u32 src1, .int .u32 dst1, so1, sd1] 26)).alloc (by simp) (.cells #[.int .u8 tos2, .int .u16 id2, .bool keep2, .int .u8 ttl2, .int .u8 proto2, .int .u32 src2, .int .u32 dst2, so2, sd2] 26)
  have HA := hide (hIo1.below hbox)
  have HB := hide (hId1.below hbox)
  have HC := hide (hIo2.below hbox)
  have HE := hide (hId2.below hbox)
  obtain ⟨ao1, co1, rfl, _, _⟩ := hIo1.slice
  obtain ⟨ad1, cd1, rfl, _, _⟩ := hId1.slice
  obtain ⟨ao2, co2, rfl, _, _⟩ := hIo2.slice
  obtain ⟨ad2, cd2, rfl, _, _⟩ := hId2.slice
  have HS : Hid (smP tos1 id1 ttl1 proto1 src1 dst1 tos2 id2 ttl2 proto2 src2 dst2 keep1 keep2 zo1 zd1 zo2 zd2 = (tos1 == tos2 && (id1 == id2 && (keep1 == keep2 && (ttl1 == ttl2 && (proto1 == proto2 && (src1 == src2 && (dst1 == dst2 && (decide (zo1 = zo2) && decide (zd1 = zd2)))))))))) := rfl
  generalize smP tos1 id1 ttl1 proto1 src1 dst1 tos2 id2 ttl2 proto2 src2 dst2 keep1 keep2 zo1 zd1 zo2 zd2 = r at *
  clear hIo1 hId1 hIo2 hId2
  cases h0 : (tos1 == tos2)
  · rw [h0] at HS
    go_enter Tryd.func11, Tryd.ntmps11
    go_wp2
    go_ret
    exact ⟨by rw [HS.out]; rfl, hbox⟩
  · rw [h0] at HS
    cases h1 : (id1 == id2)
    · rw [h1] at HS
      go_enter Tryd.func11, Tryd.ntmps11
      go_wp2
      go_ret
      exact ⟨by rw [HS.out]; rfl, hbox⟩
    · rw [h1] at HS
      cases h2 : (keep1 == keep2)
      · rw [h2] at HS
        go_enter Tryd.func11, Tryd.ntmps11
        go_wp2
        go_ret
        exact ⟨by rw [HS.out]; rfl, hbox⟩
      · rw [h2] at HS
        cases h3 : (ttl1 == ttl2)
        · rw [h3] at HS
          go_enter Tryd.func11, Tryd.ntmps11
          go_wp2
          go_ret
          exact ⟨by rw [HS.out]; rfl, hbox⟩
        · rw [h3] at HS
          cases h4 : (proto1 == proto2)
          · rw [h4] at HS
            go_enter Tryd.func11, Tryd.ntmps11
            go_wp2
            go_ret
            exact ⟨by rw [HS.out]; rfl, hbox⟩
          · rw [h4] at HS
            cases h5 : (src1 == src2)
            · rw [h5] at HS
              go_enter Tryd.func11, Tryd.ntmps11
              go_wp2
              go_ret
              exact ⟨by rw [HS.out]; rfl, hbox⟩
            · rw [h5] at HS
              cases h6 : (dst1 == dst2)
              · rw [h6] at HS
                go_enter Tryd.func11, Tryd.ntmps11
                go_wp2
                go_ret
                exact ⟨by rw [HS.out]; rfl, hbox⟩
              · rw [h6] at HS
                simp only [Bool.true_and] at HS
                have ca := conv_rd 24 9 5 Tryd.underlying24 Tryd.underlying5 Tryd.underlying9 HA.out
                have cb := conv_rd 24 9 5 Tryd.underlying24 Tryd.underlying5 Tryd.underlying9 HB.out
                have cc := conv_rd 24 9 5 Tryd.underlying24 Tryd.underlying5 Tryd.underlying9 HC.out
                have ce := conv_rd 24 9 5 Tryd.underlying24 Tryd.underlying5 Tryd.underlying9 HE.out
                have e1 := str_eq hO1 hO2
                have e2 := str_eq hD1 hD2
                generalize strOfNums zo1 = s1 at *
                generalize strOfNums zo2 = s2 at *
                generalize strOfNums zd1 = s3 at *
                generalize strOfNums zd2 = s4 at *
                clear HA HB HC HE hO1 hO2 hD1 hD2
                cases h7 : decide (zo1 = zo2)
                · rw [h7] at HS e1
                  go_enter Tryd.func11, Tryd.ntmps11
                  go_wp2
                  go_ret
                  exact ⟨by rw [HS.out]; rfl, hbox⟩
                · rw [h7] at HS e1
                  go_enter Tryd.func11, Tryd.ntmps11
                  go_wp2
                  go_ret
                  exact ⟨by rw [HS.out]; rfl, hbox⟩
end Go.Proofs.YtcdeiakeiehaaaaDoor
