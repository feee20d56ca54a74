/- Whether two datagrams are the same; the document's answer. -/
import Derived.Test.YtcjigldianobgabV4
import Derived.Test.YtcjigldianobgabW8
import Derived.Test.YtcjigldianobgabSE
namespace Go.Proofs.Ytcjigldianobgab
open Go.RowKit Go.Shelf
set_option maxRecDepth 100000
set_option linter.unusedVariables false
set_option linter.unusedSimpArgs false

/-- Are two datagrams the same? -/
def smU (sp1 : Int) (dp1 : Int) (bare1 : Bool) (sp2 : Int) (dp2 : Int) (bare2 : Bool) (zd1 zd2 : List Int) : Bool := sp1 == sp2 && (dp1 == dp2 && (bare1 == bare2 && (decide (zd1 = zd2))))
theorem smU_self (sp dp : Int) (bare : Bool) (zd : List Int) : smU sp dp bare sp dp bare zd zd = true := by simp [smU]

set_option maxHeartbeats 4000000 in
theorem sameUdp_any (sp1 : Int) (dp1 : Int) (bare1 : Bool) (sp2 : Int) (dp2 : Int) (bare2 : Bool) (sd1 sd2 : Value) (zd1 zd2 : List Int) (w : World) (hD1 : Mt.By zd1) (hD2 : Mt.By zd2) (hI1 : Rd w.heap.size w sd1 zd1) (hI2 : Rd w.heap.size w sd2 zd2) :
    Calls Try.prog 10 #[.agg #[.int .u16 sp1, .int .u16 dp1, .bool bare1, sd1], .agg #[.int .u16 sp2, .int .u16 dp2, .bool bare2, sd2]] w fun e w' => e = .returned (.bool (smU sp1 dp1 bare1 sp2 dp2 bare2 zd1 zd2)) ∧ Below w.heap.size w w' := by
  have hbox : Below w.heap.size w ((w.alloc (.cells #[.int .u16 sp1, .int .u16 dp1, .bool bare1, sd1] 29)).alloc (.cells #[.int .u16 sp2, .int .u16 dp2, .bool bare2, sd2] 29)) := ((Below.refl w.heap.size w).alloc (Nat.le_refl _) _).alloc (by simp) _
  have HA := hide (hI1.below hbox)
  have HB := hide (hI2.below hbox)
  obtain ⟨ad1, cd1, rfl, _, _⟩ := hI1.slice
  obtain ⟨ad2, cd2, rfl, _, _⟩ := hI2.slice
  have HS : Hid (smU sp1 dp1 bare1 sp2 dp2 bare2 zd1 zd2 = (sp1 == sp2 && (dp1 == dp2 && (bare1 == bare2 && (decide (zd1 = zd2)))))) := rfl
  generalize smU sp1 dp1 bare1 sp2 dp2 bare2 zd1 zd2 = r at *
  clear hI1 hI2
  cases h0 : (sp1 == sp2)
  · rw [h0] at HS
    go_enter Try.func10, Try.ntmps10
    go_wp2
    go_ret
    exact ⟨by rw [HS.out]; rfl, hbox⟩
  · rw [h0] at HS
    cases h1 : (dp1 == dp2)
    · rw [h1] at HS
      go_enter Try.func10, Try.ntmps10
      go_wp2
      go_ret
      exact ⟨by rw [HS.out]; rfl, hbox⟩
    · rw [h1] at HS
      cases h2 : (bare1 == bare2)
      · rw [h2] at HS
        go_enter Try.func10, Try.ntmps10
        go_wp2
        go_ret
        exact ⟨by rw [HS.out]; rfl, hbox⟩
      · rw [h2] at HS
        simp only [Bool.true_and] at HS
        go_enter Try.func10, Try.ntmps10
        go_wp2_with fail
        refine (equal_any _ _ zd1 zd2 _ hD1 hD2 HA.out HB.out).mono ?_
        rintro e w2 ⟨rfl, rfl⟩
        go_wp2
        go_ret
        exact ⟨by rw [HS.out]; rfl, hbox⟩

set_option maxHeartbeats 4000000 in
theorem rsameUdp_any (sp1 : Int) (dp1 : Int) (bare1 : Bool) (sp2 : Int) (dp2 : Int) (bare2 : Bool) (sd1 sd2 : Value) (zd1 zd2 : List Int) (w : World) (hD1 : Mt.By zd1) (hD2 : Mt.By zd2) (hI1 : Rd w.heap.size w sd1 zd1) (hI2 : Rd w.heap.size w sd2 zd2) :
    Calls Try.prog 11 #[.agg #[.int .u16 sp1, .int .u16 dp1, .bool bare1, sd1], .agg #[.int .u16 sp2, .int .u16 dp2, .bool bare2, sd2]] w fun e w' => e = .returned (.bool (smU sp1 dp1 bare1 sp2 dp2 bare2 zd1 zd2)) ∧ Below w.heap.size w w' := by
  have hbox : Below w.heap.size w ((w.alloc (.cells #[.int .u16 sp1, .int .u16 dp1, .bool bare1, sd1] 29)).alloc (.cells #[.int .u16 sp2, .int .u16 dp2, .bool bare2, sd2] 29)) := ((Below.refl w.heap.size w).alloc (Nat.le_refl _) _).alloc (by simp) _
  have HA := hide (hI1.below hbox)
  have HB := hide (hI2.below hbox)
  obtain ⟨ad1, cd1, rfl, _, _⟩ := hI1.slice
  obtain ⟨ad2, cd2, rfl, _, _⟩ := hI2.slice
  have HS : Hid (smU sp1 dp1 bare1 sp2 dp2 bare2 zd1 zd2 = (sp1 == sp2 && (dp1 == dp2 && (bare1 == bare2 && (decide (zd1 = zd2)))))) := rfl
  generalize smU sp1 dp1 bare1 sp2 dp2 bare2 zd1 zd2 = r at *
  clear hI1 hI2
  have ca := conv_rd 25 9 5 Try.underlying25 Try.underlying5 Try.underlying9 HA.out
  have cb := conv_rd 25 9 5 Try.underlying25 Try.underlying5 Try.underlying9 HB.out
  have HE := hide (str_eq hD1 hD2)
  cases h0 : (sp1 == sp2)
  · rw [h0] at HS
    go_enter Try.func11, Try.ntmps11
    go_wp2
    go_ret
    exact ⟨by rw [HS.out]; rfl, hbox⟩
  · rw [h0] at HS
    cases h1 : (dp1 == dp2)
    · rw [h1] at HS
      go_enter Try.func11, Try.ntmps11
      go_wp2
      go_ret
      exact ⟨by rw [HS.out]; rfl, hbox⟩
    · rw [h1] at HS
      cases h2 : (bare1 == bare2)
      · rw [h2] at HS
        go_enter Try.func11, Try.ntmps11
        go_wp2
        go_ret
        exact ⟨by rw [HS.out]; rfl, hbox⟩
      · rw [h2] at HS
        simp only [Bool.true_and] at HS
        go_enter Try.func11, Try.ntmps11
        go_wp2
        go_ret
        exact ⟨by rw [HS.out, ← HE.out]; rfl, hbox⟩

end Go.Proofs.Ytcjigldianobgab
