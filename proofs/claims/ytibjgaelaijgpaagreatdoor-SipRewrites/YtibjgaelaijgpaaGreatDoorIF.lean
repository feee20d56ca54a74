/- Package sip: Right. -/
import Derived.Test.YtibjgaelaijgpaaGreatDoorIE
namespace Go.Proofs.YtibjgaelaijgpaaGreatDoor
open Go.RowKit Go.Shelf
set_option maxRecDepth 100000
set_option linter.unusedVariables false
set_option linter.unusedSimpArgs false

/-- A message is right. -/
def rgB (st : ByteArray) (hs : List Hr) (n : Nat) : Bool := allB lnC st && (!(st.size == 0) && (rhB n hs && decide (szM st hs n ≤ 4096)))

set_option maxHeartbeats 4000000 in
theorem right14_any (st : ByteArray) (hs : List Hr) (sv sb : Value) (zb : List Int) (w : World) (hT : TabI w) (hI : RdM w.heap.size w sv hs) (hB : Rd w.heap.size w sb zb) (hz : szM st hs zb.length ≤ 9000000000000000000) :
    Calls Tryz.prog 21 #[.agg #[.string st, sv, sb]] w fun e w' => e = .returned (.bool (rgB st hs zb.length)) ∧ Later w w' := by
  obtain ⟨ah, ch, rfl, hl1, hm1⟩ := hI.slice
  obtain ⟨ab, cb, rfl, hl2, hm2⟩ := hB.slice
  have HR : Hid (rgB st hs zb.length = (allB lnC st && (!(st.size == 0) && (rhB zb.length hs && decide (szM st hs zb.length ≤ 4096))))) := rfl
  generalize rgB st hs zb.length = r at *
  have l0 : Later w (w.alloc (.cells #[.string st, .slice ah hs.length ch, .slice ab zb.length cb] 25)) := later_allocR _ _
  have C0 := hide (heap_alloc_new w (.cells #[.string st, .slice ah hs.length ch, .slice ab zb.length cb] 25))
  have hzz : hsz hs ≤ 9000000000000000000 := by unfold szM at hz; omega
  go_enter Tryz.func21, Tryz.ntmps21
  go_upto_region 1 with fail
  generalize w.alloc _ = w0 at *
  have HI := hide (hI.later l0)
  have HB := hide (hB.later l0)
  generalize w.heap.size = gm at *
  have k0 := block_cell C0.out
  go_wp2_with fail
  refine (rightLine_any st w0).mono ?_
  generalize allB lnC st = b1 at *
  rintro e w1 ⟨rfl, l1⟩
  clear k0
  cases b1 with
  | false =>
    go_wp2_with fail
    go_ret
    exact ⟨by rw [HR.out]; rfl, Later.trans l0 l1⟩
  | true =>
    have k1 := block_cell (later_keep l1 C0.out)
    by_cases hs0 : st.size = 0
    · have HE : Hid ((st.size == 0) = true) := by show _ = _; simp [hs0]
      have he := str_empty st hs0
      subst he
      rw [HE.out] at HR
      go_wp2_with fail
      go_ret
      exact ⟨by rw [HR.out]; rfl, Later.trans l0 l1⟩
    · have HE : Hid ((st.size == 0) = false) := by show _ = _; simp [hs0]
      have hne := str_ne hs0
      rw [HE.out] at HR
      go_wp2_with fail
      refine (rightHeaders_any hs _ zb.length w1 (hT.later (Later.trans l0 l1)) (HI.out.later l1) hzz (by omega)).mono ?_
      generalize rhB zb.length hs = b2 at *
      rintro e w2 ⟨rfl, l2⟩
      clear k1
      cases b2 with
      | false =>
        go_wp2_with fail
        go_ret
        exact ⟨by rw [HR.out]; rfl, Later.trans l0 (l1.trans l2)⟩
      | true =>
        have k2 := block_cell (later_keep (l1.trans l2) C0.out)
        go_wp2_with fail
        refine (size_any st hs _ _ zb w2 (HI.out.later (l1.trans l2)) (HB.out.later (l1.trans l2)) hz).mono ?_
        rintro e w3 ⟨rfl, l3⟩
        clear k2
        have hq : decide (((szM st hs zb.length : Nat) : Int) ≤ 4096) = decide (szM st hs zb.length ≤ 4096) := by rw [decide_eq_decide]; omega
        have HQ := hide hq
        clear hq
        generalize szM st hs zb.length = q at *
        go_wp2_with fail
        go_ret
        exact ⟨by rw [HR.out, ← HQ.out]; simp, Later.trans l0 (l1.trans (l2.trans l3))⟩
end Go.Proofs.YtibjgaelaijgpaaGreatDoor
