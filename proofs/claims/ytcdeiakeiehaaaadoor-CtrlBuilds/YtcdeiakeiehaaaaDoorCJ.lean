/- Package ctrl: whether two messages, two frames are the same; the document's answers. -/
import Derived.Test.YtcdeiakeiehaaaaDoorV4
import Derived.Test.YtcdeiakeiehaaaaDoorCE
namespace Go.Proofs.YtcdeiakeiehaaaaDoor
open Go.RowKit Go.Shelf
set_option maxRecDepth 100000
set_option linter.unusedVariables false
set_option linter.unusedSimpArgs false

/-- Are two messages, two frames the same? -/
def smI (ty1 : Int) (cde1 : Int) (rest1 : Int) (ty2 : Int) (cde2 : Int) (rest2 : Int) (zd1 zd2 : List Int) : Bool := ty1 == ty2 && (cde1 == cde2 && (rest1 == rest2 && (decide (zd1 = zd2))))
theorem smI_self (ty : Int) (cde : Int) (rest : Int) (zd : List Int) : smI ty cde rest ty cde rest zd zd = true := by simp [smI]
def smG (cl1 : Int) (hs1 : Bool) (ha1 : Bool) (sq1 : Int) (ak1 : Int) (cl2 : Int) (hs2 : Bool) (ha2 : Bool) (sq2 : Int) (ak2 : Int) (zd1 zd2 : List Int) : Bool := cl1 == cl2 && (hs1 == hs2 && (ha1 == ha2 && (sq1 == sq2 && (ak1 == ak2 && (decide (zd1 = zd2))))))
theorem smG_self (cl : Int) (hs : Bool) (ha : Bool) (sq : Int) (ak : Int) (zd : List Int) : smG cl hs ha sq ak cl hs ha sq ak zd zd = true := by simp [smG]

set_option maxHeartbeats 4000000 in
theorem rsameIcmp_any (ty1 cde1 rest1 ty2 cde2 rest2 : Int) (sd1 sd2 : Value) (zd1 zd2 : List Int) (w : World) (hD1 : Mt.By zd1) (hD2 : Mt.By zd2) (hI1 : Rd w.heap.size w sd1 zd1) (hI2 : Rd w.heap.size w sd2 zd2) :
    Calls Tryd.prog 13 #[.agg #[.int .u8 ty1, .int .u8 cde1, .int .u32 rest1, sd1], .agg #[.int .u8 ty2, .int .u8 cde2, .int .u32 rest2, sd2]] w fun e w' => e = .returned (.bool (smI ty1 cde1 rest1 ty2 cde2 rest2 zd1 zd2)) ∧ Below w.heap.size w w' := by
  have hbox : Below w.heap.size w ((w.alloc (.cells #[.int .u8 ty1, .int .u8 cde1, .int .u32 rest1, sd1] 28)).alloc (.cells #[.int .u8 ty2, .int .u8 cde2, .int .u32 rest2, sd2] 28)) := ((Below.refl w.heap.size w).alloc (Nat.le_refl _) _).alloc (by simp) _
  have HA := hide (hI1.below hbox)
  have HB := hide (hI2.below hbox)
  obtain ⟨ad1, cd1, rfl, _, _⟩ := hI1.slice
  obtain ⟨ad2, cd2, rfl, _, _⟩ := hI2.slice
  have HS : Hid (smI ty1 cde1 rest1 ty2 cde2 rest2 zd1 zd2 = (ty1 == ty2 && (cde1 == cde2 && (rest1 == rest2 && (decide (zd1 = zd2)))))) := rfl
  generalize smI ty1 cde1 rest1 ty2 cde2 rest2 zd1 zd2 = r at *
  clear hI1 hI2
  have ca := conv_rd 24 9 5 Tryd.underlying24 Tryd.underlying5 Tryd.underlying9 HA.out
  have cb := conv_rd 24 9 5 Tryd.underlying24 Tryd.underlying5 Tryd.underlying9 HB.out
  have HE := hide (str_eq hD1 hD2)
  cases h0 : (ty1 == ty2)
  · rw [h0] at HS
    go_enter Tryd.func13, Tryd.ntmps13
    go_wp2
    go_ret
    exact ⟨by rw [HS.out]; rfl, hbox⟩
  · rw [h0] at HS
    cases h1 : (cde1 == cde2)
    · rw [h1] at HS
      go_enter Tryd.func13, Tryd.ntmps13
      go_wp2
      go_ret
      exact ⟨by rw [HS.out]; rfl, hbox⟩
    · rw [h1] at HS
      cases h2 : (rest1 == rest2)
      · rw [h2] at HS
        go_enter Tryd.func13, Tryd.ntmps13
        go_wp2
        go_ret
        exact ⟨by rw [HS.out]; rfl, hbox⟩
      · rw [h2] at HS
        simp only [Bool.true_and] at HS
        go_enter Tryd.func13, Tryd.ntmps13
        go_wp2
        go_ret
        exact ⟨by rw [HS.out, ← HE.out]; rfl, hbox⟩

set_option maxHeartbeats 4000000 in
theorem rsameGre_any (cl1 sq1 ak1 cl2 sq2 ak2 : Int) (hs1 ha1 hs2 ha2 : Bool) (sd1 sd2 : Value) (zd1 zd2 : List Int) (w : World) (hD1 : Mt.By zd1) (hD2 : Mt.By zd2) (hI1 : Rd w.heap.size w sd1 zd1) (hI2 : Rd w.heap.size w sd2 zd2) :
    Calls Tryd.prog 16 #[.agg #[.int .u16 cl1, .bool hs1, .bool ha1, .int .u32 sq1, .int .u32 ak1, sd1], .agg #[.int .u16 cl2, .bool hs2, .bool ha2, .int .u32 sq2, .int .u32 ak2, sd2]] w fun e w' => e = .returned (.bool (smG cl1 hs1 ha1 sq1 ak1 cl2 hs2 ha2 sq2 ak2 zd1 zd2)) ∧ Below w.heap.size w w' := by
  have hbox : Below w.heap.size w ((w.alloc (.cells #[.int .u16 cl1, .bool hs1, .bool ha1, .int .u32 sq1, .int .u32 ak1, sd1] 30)).alloc (.cells #[.int .u16 cl2, .bool hs2, .bool ha2, .int .u32 sq2, .int .u32 ak2, sd2] 30)) := ((Below.refl w.heap.size w).alloc (Nat.le_refl _) _).alloc (by simp) _
  have HA := hide (hI1.below hbox)
  have HB := hide (hI2.below hbox)
  obtain ⟨ad1, cd1, rfl, _, _⟩ := hI1.slice
  obtain ⟨ad2, cd2, rfl, _, _⟩ := hI2.slice
  have HS : Hid (smG cl1 hs1 ha1 sq1 ak1 cl2 hs2 ha2 sq2 ak2 zd1 zd2 = (cl1 == cl2 && (hs1 == hs2 && (ha1 == ha2 && (sq1 == sq2 && (ak1 == ak2 && (decide (zd1 = zd2)))))))) := rfl
  generalize smG cl1 hs1 ha1 sq1 ak1 cl2 hs2 ha2 sq2 ak2 zd1 zd2 = r at *
  clear hI1 hI2
  have ca := conv_rd 24 9 5 Tryd.underlying24 Tryd.underlying5 Tryd.underlying9 HA.out
  have cb := conv_rd 24 9 5 Tryd.underlying24 Tryd.underlying5 Tryd.underlying9 HB.out
  have HE := hide (str_eq hD1 hD2)
  cases h0 : (cl1 == cl2)
  · rw [h0] at HS
    go_enter Tryd.func16, Tryd.ntmps16
    go_wp2
    go_ret
    exact ⟨by rw [HS.out]; rfl, hbox⟩
  · rw [h0] at HS
    cases h1 : (hs1 == hs2)
    · rw [h1] at HS
      go_enter Tryd.func16, Tryd.ntmps16
      go_wp2
      go_ret
      exact ⟨by rw [HS.out]; rfl, hbox⟩
    · rw [h1] at HS
      cases h2 : (ha1 == ha2)
      · rw [h2] at HS
        go_enter Tryd.func16, Tryd.ntmps16
        go_wp2
        go_ret
        exact ⟨by rw [HS.out]; rfl, hbox⟩
      · rw [h2] at HS
        cases h3 : (sq1 == sq2)
        · rw [h3] at HS
          go_enter Tryd.func16, Tryd.ntmps16
          go_wp2
          go_ret
          exact ⟨by rw [HS.out]; rfl, hbox⟩
        · rw [h3] at HS
          cases h4 : (ak1 == ak2)
          · rw [h4] at HS
            go_enter Tryd.func16, Tryd.ntmps16
            go_wp2
            go_ret
            exact ⟨by rw [HS.out]; rfl, hbox⟩
          · rw [h4] at HS
            simp only [Bool.true_and] at HS
            go_enter Tryd.func16, Tryd.ntmps16
            go_wp2
            go_ret
            exact ⟨by rw [HS.out, ← HE.out]; rfl, hbox⟩

end Go.Proofs.YtcdeiakeiehaaaaDoor
