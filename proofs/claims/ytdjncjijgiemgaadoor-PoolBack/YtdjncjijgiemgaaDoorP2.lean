/- The document's pool: Pair. -/
import Derived.Test.YtdjncjijgiemgaaDoorP1
namespace Go.Proofs.YtdjncjijgiemgaaDoor
open Go.RowKit Go.Shelf
set_option maxRecDepth 100000
set_option linter.unusedVariables false
set_option linter.unusedSimpArgs false

set_option maxHeartbeats 4000000 in
theorem rPair8_any (base rb low high : Nat) (v : Value) (U : List Nat) (wish : Nat) (hl : 1 ≤ low) (hlh : low ≤ high) (hh : high < 65536) (w : World) (hT : DP base w rb v low high U) (hw : wish < 65536) (hU : U.length ≤ 90000) :
    Calls Tryd.prog 32 #[.pointer (some ⟨rb, 0, none⟩), .int .u16 (wish : Int)] w (rtP base w rb low high v U (insU (rtn low high U true wish + 1) (insU (rtn low high U true wish) U)) (rtn low high U true wish)) := by
  have HF := hide (rfree8_any base rb low high v U wish w hT hw (by omega))
  have HF2 := hide (fun (h : wish + 1 < 65536) => rfree8_any base rb low high v U (wish + 1) w hT h (by omega))
  rw [show ((wish + 1 : Nat) : Int) = (wish : Int) + 1 from by omega] at HF2
  have HL := hide (rleast8_any base rb low high v U true hlh hh w hT (by omega))
  have HT := hide (fun n hn => rtake8_any base rb low high v U n w hT hn (by omega))
  have HT2 := hide (fun (n : Nat) (hn : n + 1 < 65536) (W : World) (v' : Value) (h : DP base W rb v' low high (insU n U)) => rtake8_any base rb low high v' (insU n U) (n + 1) W h hn (by rw [insU_length]; omega))
  have hw' : (wish : Int) ≤ 65535 := by omega
  clear hT
  cases hro : rok low high U true wish with
  | true =>
    have hrt : rtn low high U true wish = wish := by unfold rtn; rw [if_pos hro]
    obtain ⟨p1, p2, p3, p4⟩ := rok_range hro
    obtain ⟨p5, p6, p7⟩ := p4 rfl
    have hw1 : ¬ (wish : Int) = 0 := by omega
    have h2' : (wish : Int) % 2 = 0 := by omega
    have HW1 : Hid (wish ≠ 0) := by show _ ≠ _; omega
    have hf1 : rfr low high U wish = true := by unfold rfr; simp [p1, p2, p3]
    have hf2 : rfr low high U (wish + 1) = true := by unfold rfr; simp [p6, p7]; omega
    rw [hrt]
    have HTW := hide (HT.out wish hw)
    have HTX := hide (HT2.out wish (by omega))
    rw [show ((wish + 1 : Nat) : Int) = (wish : Int) + 1 from by omega] at HTX
    have HFX := hide (HF2.out (by omega))
    rw [hf1] at HF
    rw [hf2] at HFX
    clear hf1 hf2 hro hrt HT HL HT2 HF2 p1 p2 p3 p4 p5 p6 p7
    go_enter Tryd.func32, Tryd.ntmps32
    go_wp2_with fail
    refine HF.out.mono ?_
    rintro e w1 ⟨rfl, rfl⟩
    go_wp2_with fail
    refine HFX.out.mono ?_
    rintro e w1 ⟨rfl, rfl⟩
    go_wp2_with fail
    refine HTW.out.mono ?_
    rintro e w2 ⟨⟨u, rfl⟩, ⟨v', hD⟩, hb⟩
    go_wp2_with fail
    refine (HTX.out w2 v' hD).mono ?_
    rintro e w3 ⟨⟨u, rfl⟩, hD3, hb3⟩
    have hbf := hb.trans hb3
    go_wp2_with fail
    refine bodyPost_ret (v := .tuple #[.int .u16 (wish : Int), .int .i64 0]) (by simp [results, Tryd.results32, go_sem]) rfl ?_
    exact .inr ⟨HW1.out, rfl, hD3, hbf⟩
  | false =>
    have hrt : rtn low high U true wish = lst low high U true := by unfold rtn; rw [if_neg (by rw [hro]; simp)]
    rw [hrt]
    have hlr := @lst_rok low high U true
    have hlb : lst low high U true ≠ 0 → lst low high U true + 1 < 65536 := fun h => by have := rok_range (hlr h); have := this.2.2.2 rfl; omega
    have hcase : (¬ wish % 2 = 0) ∨ (wish % 2 = 0 ∧ rfr low high U wish = false) ∨ (wish % 2 = 0 ∧ rfr low high U wish = true ∧ rfr low high U (wish + 1) = false) := by
      unfold rok at hro
      by_cases h2 : wish % 2 = 0
      · cases h3 : rfr low high U wish with
        | false => exact .inr (.inl ⟨h2, rfl⟩)
        | true =>
          rw [h3] at hro
          simp [h2] at hro
          exact .inr (.inr ⟨h2, rfl, hro⟩)
      · exact .inl h2
    clear hro hrt hlr
    generalize lst low high U true = n at *
    go_enter Tryd.func32, Tryd.ntmps32
    rcases hcase with h2 | ⟨h2, h3⟩ | ⟨h2, h3, h4⟩
    case' inl =>
      have h2' : ¬ (wish : Int) % 2 = 0 := by omega
      clear h2
      go_wp2_with fail
      refine HL.out.mono ?_
      rintro e w1 ⟨rfl, rfl⟩
      clear h2'
    case' inr.inl =>
      have h2' : (wish : Int) % 2 = 0 := by omega
      rw [h3] at HF
      clear h2 h3
      go_wp2_with fail
      refine HF.out.mono ?_
      rintro e w1 ⟨rfl, rfl⟩
      go_wp2_with fail
      refine HL.out.mono ?_
      rintro e w1 ⟨rfl, rfl⟩
      clear h2'
    case' inr.inr =>
      have h2' : (wish : Int) % 2 = 0 := by omega
      rw [h3] at HF
      have HFX := hide (HF2.out (by omega))
      rw [h4] at HFX
      clear h2 h3 h4
      go_wp2_with fail
      refine HF.out.mono ?_
      rintro e w1 ⟨rfl, rfl⟩
      go_wp2_with fail
      refine HFX.out.mono ?_
      rintro e w1 ⟨rfl, rfl⟩
      go_wp2_with fail
      refine HL.out.mono ?_
      rintro e w1 ⟨rfl, rfl⟩
      clear h2' HFX
    all_goals
      by_cases hn : n = 0
      · subst hn
        clear hlb HT HT2
        go_wp2_with fail
        refine bodyPost_ret (v := .tuple #[.int .u16 0, .int .i64 9]) (by simp [results, Tryd.results32, go_sem]) rfl ?_
        exact .inl ⟨rfl, rfl, rfl⟩
      · have hn6 := hlb hn
        have hn1 : ¬ (n : Int) = 0 := by omega
        have hn2 : (n : Int) ≤ 65535 := by omega
        have HTW := hide (HT.out n (by omega))
        have HTX := hide (HT2.out n hn6)
        rw [show ((n + 1 : Nat) : Int) = (n : Int) + 1 from by omega] at HTX
        have HN := hide hn
        clear hlb HT HT2 hn hn6
        go_wp2_with fail
        refine HTW.out.mono ?_
        rintro e w2 ⟨⟨u, rfl⟩, ⟨v', hD⟩, hb⟩
        go_wp2_with fail
        refine (HTX.out w2 v' hD).mono ?_
        rintro e w3 ⟨⟨u, rfl⟩, hD3, hb3⟩
        have hbf := hb.trans hb3
        go_wp2_with fail
        refine bodyPost_ret (v := .tuple #[.int .u16 (n : Int), .int .i64 0]) (by simp [results, Tryd.results32, go_sem]) rfl ?_
        exact .inr ⟨HN.out, rfl, hD3, hbf⟩
end Go.Proofs.YtdjncjijgiemgaaDoor
