/- bytes.Equal, and package ipv4's Same. -/
import Derived.Test.YtcjigldianobgaeW8
import Derived.Test.YtcjigldianobgaeV3
namespace Go.Proofs.Ytcjigldianobgae
open Go.RowKit Go.Shelf
set_option maxRecDepth 100000

theorem str_inj {a b : List Int} (ha : Mt.By a) (hb : Mt.By b) (h : strOfNums a = strOfNums b) : a = b := by
  have h1 : (strOfNums a).data.toList = (strOfNums b).data.toList := by rw [h]
  rw [strOfNums_data, strOfNums_data] at h1
  have h2 := congrArg (List.map (fun c : UInt8 => (c.toNat : Int))) h1
  have e : ∀ l : List Int, Mt.By l → (l.map fun n => UInt8.ofNat n.toNat).map (fun c : UInt8 => (c.toNat : Int)) = l := by
    intro l hl
    rw [List.map_map]
    conv => rhs; rw [← List.map_id l]
    refine List.map_congr_left (fun z hz => ?_)
    have := hl z hz
    simp
    omega
  rw [e a ha, e b hb] at h2
  exact h2

theorem str_eq {a b : List Int} (ha : Mt.By a) (hb : Mt.By b) : ((strOfNums a).toList == (strOfNums b).toList) = decide (a = b) := by
  by_cases h : a = b
  · subst h; simp
  · rw [decide_eq_false h]
    refine beq_eq_false_iff_ne.2 (fun e => h (str_inj ha hb ?_))
    rw [ByteArray.toList_eq, ByteArray.toList_eq] at e
    unfold strOfNums at *
    simpa using e

set_option maxHeartbeats 1000000 in
theorem equal_any {n₀ n₁ : Nat} (sa sb : Value) (za zb : List Int) (w : World) (hA : Mt.By za) (hB : Mt.By zb) (hIa : Rd n₀ w sa za) (hIb : Rd n₁ w sb zb) :
    Calls Try.prog 32 #[sa, sb] w fun e w' => e = .returned (.bool (decide (za = zb))) ∧ w' = w := by
  have ca := conv_rd 24 9 5 Try.underlying24 Try.underlying5 Try.underlying9 hIa
  have cb := conv_rd 24 9 5 Try.underlying24 Try.underlying5 Try.underlying9 hIb
  go_enter Try.func32, Try.ntmps32
  have HE := hide (str_eq hA hB)
  go_wp2
  rw [HE.out]
  go_ret
  exact ⟨rfl, rfl⟩

/-- Are two packets the same? -/
def smP (tos1 id1 ttl1 proto1 src1 dst1 tos2 id2 ttl2 proto2 src2 dst2 : Int) (keep1 keep2 : Bool) (zo1 zd1 zo2 zd2 : List Int) : Bool :=
  tos1 == tos2 && (id1 == id2 && (keep1 == keep2 && (ttl1 == ttl2 && (proto1 == proto2 && (src1 == src2 && (dst1 == dst2 && (decide (zo1 = zo2) && decide (zd1 = zd2))))))))

set_option maxHeartbeats 4000000 in
theorem same_any (tos1 id1 ttl1 proto1 src1 dst1 tos2 id2 ttl2 proto2 src2 dst2 : Int) (keep1 keep2 : Bool) (so1 sd1 so2 sd2 : Value) (zo1 zd1 zo2 zd2 : List Int) (w : World)
    (hO1 : Mt.By zo1) (hD1 : Mt.By zd1) (hO2 : Mt.By zo2) (hD2 : Mt.By zd2) (hIo1 : Rd w.heap.size w so1 zo1) (hId1 : Rd w.heap.size w sd1 zd1) (hIo2 : Rd w.heap.size w so2 zo2) (hId2 : Rd w.heap.size w sd2 zd2) :
    Calls Try.prog 9 #[.agg #[.int .u8 tos1, .int .u16 id1, .bool keep1, .int .u8 ttl1, .int .u8 proto1, .int .u32 src1, .int .u32 dst1, so1, sd1], .agg #[.int .u8 tos2, .int .u16 id2, .bool keep2, .int .u8 ttl2, .int .u8 proto2, .int .u32 src2, .int .u32 dst2, so2, sd2]] w fun e w' => e = .returned (.bool (smP tos1 id1 ttl1 proto1 src1 dst1 tos2 id2 ttl2 proto2 src2 dst2 keep1 keep2 zo1 zd1 zo2 zd2)) ∧ Below w.heap.size w w' := by
  have hbox := ((Below.refl w.heap.size w).alloc (Nat.le_refl _) (.cells #[.int .u8 tos1, .int .u16 id1, .bool keep1, .int .u8 ttl1, .int .u8 proto1, .int .u32 src1, .int .u32 dst1, so1, sd1] 26)).alloc (by simp) (.cells #[.int .u8 tos2, .int .u16 id2, .bool keep2, .int .u8 ttl2, .int .u8 proto2, .int .u32 src2, .int .u32 dst2, so2, sd2] 26)
  have HA := hide (hIo1.below hbox)
  have HB := hide (hId1.below hbox)
  have HC := hide (hIo2.below hbox)
  have HE := hide (hId2.below hbox)
  obtain ⟨ao1, co1, rfl, _, _⟩ := hIo1.slice
  obtain ⟨ad1, cd1, rfl, _, _⟩ := hId1.slice
  obtain ⟨ao2, co2, rfl, _, _⟩ := hIo2.slice
  obtain ⟨ad2, cd2, rfl, _, _⟩ := hId2.slice
  have HS : Hid (smP tos1 id1 ttl1 proto1 src1 dst1 tos2 id2 ttl2 proto2 src2 dst2 keep1 keep2 zo1 zd1 zo2 zd2 = (tos1 == tos2 && (id1 == id2 && (keep1 == keep2 && (ttl1 == ttl2 && (proto1 == proto2 && (src1 == src2 && (dst1 == dst2 && (decide (zo1 = zo2) && decide (zd1 = zd2)))))))))) := rfl
  generalize smP tos1 id1 ttl1 proto1 src1 dst1 tos2 id2 ttl2 proto2 src2 dst2 keep1 keep2 zo1 zd1 zo2 zd2 = r at *
  clear hIo1 hId1 hIo2 hId2
  cases h0 : (tos1 == tos2)
  · rw [h0] at HS
    go_enter Try.func9, Try.ntmps9
    go_wp2
    go_ret
    exact ⟨by rw [HS.out]; rfl, hbox⟩
  · rw [h0] at HS
    cases h1 : (id1 == id2)
    · rw [h1] at HS
      go_enter Try.func9, Try.ntmps9
      go_wp2
      go_ret
      exact ⟨by rw [HS.out]; rfl, hbox⟩
    · rw [h1] at HS
      cases h2 : (keep1 == keep2)
      · rw [h2] at HS
        go_enter Try.func9, Try.ntmps9
        go_wp2
        go_ret
        exact ⟨by rw [HS.out]; rfl, hbox⟩
      · rw [h2] at HS
        cases h3 : (ttl1 == ttl2)
        · rw [h3] at HS
          go_enter Try.func9, Try.ntmps9
          go_wp2
          go_ret
          exact ⟨by rw [HS.out]; rfl, hbox⟩
        · rw [h3] at HS
          cases h4 : (proto1 == proto2)
          · rw [h4] at HS
            go_enter Try.func9, Try.ntmps9
            go_wp2
            go_ret
            exact ⟨by rw [HS.out]; rfl, hbox⟩
          · rw [h4] at HS
            cases h5 : (src1 == src2)
            · rw [h5] at HS
              go_enter Try.func9, Try.ntmps9
              go_wp2
              go_ret
              exact ⟨by rw [HS.out]; rfl, hbox⟩
            · rw [h5] at HS
              cases h6 : (dst1 == dst2)
              · rw [h6] at HS
                go_enter Try.func9, Try.ntmps9
                go_wp2
                go_ret
                exact ⟨by rw [HS.out]; rfl, hbox⟩
              · rw [h6] at HS
                simp only [Bool.true_and] at HS
                cases h7 : decide (zo1 = zo2)
                · rw [h7] at HS
                  go_enter Try.func9, Try.ntmps9
                  go_wp2_with fail
                  refine (equal_any _ _ zo1 zo2 _ hO1 hO2 HA.out HC.out).mono ?_
                  rintro e w2 ⟨rfl, rfl⟩
                  rw [h7]
                  go_wp2
                  go_ret
                  exact ⟨by rw [HS.out]; rfl, hbox⟩
                · rw [h7] at HS
                  go_enter Try.func9, Try.ntmps9
                  go_wp2_with fail
                  refine (equal_any _ _ zo1 zo2 _ hO1 hO2 HA.out HC.out).mono ?_
                  rintro e w2 ⟨rfl, rfl⟩
                  rw [h7]
                  go_wp2_with fail
                  refine (equal_any _ _ zd1 zd2 _ hD1 hD2 HB.out HE.out).mono ?_
                  rintro e w2 ⟨rfl, rfl⟩
                  go_wp2
                  go_ret
                  exact ⟨by rw [HS.out]; rfl, hbox⟩
end Go.Proofs.Ytcjigldianobgae
