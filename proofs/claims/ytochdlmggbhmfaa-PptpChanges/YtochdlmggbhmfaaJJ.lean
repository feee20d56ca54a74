/- The document's answers for layer 15: sizes, what a message's bytes say. -/
import Derived.Test.YtochdlmggbhmfaaJI
import Derived.Test.YtochdlmggbhmfaaWA
import Derived.Test.YtochdlmggbhmfaaRt
namespace Go.Proofs.Ytochdlmggbhmfaa
open Go.RowKit Go.Shelf
set_option maxRecDepth 100000
set_option linter.unusedVariables false
set_option linter.unusedSimpArgs false

theorem rsize15_any (t : Int) (w : World) : Calls Try.prog 17 #[.int .i64 t] w fun e w' => e = .returned (.int .i64 (lsz t)) ∧ w' = w := by
  by_cases h7 : t = 7
  · subst h7
    go_enter Try.func17, Try.ntmps17
    go_wp2_with fail
    go_ret
    exact ⟨rfl, rfl⟩
  by_cases h8 : t = 8
  · subst h8
    go_enter Try.func17, Try.ntmps17
    go_wp2_with fail
    go_ret
    exact ⟨rfl, rfl⟩
  by_cases h12 : t = 12
  · subst h12
    go_enter Try.func17, Try.ntmps17
    go_wp2_with fail
    go_ret
    exact ⟨rfl, rfl⟩
  by_cases h13 : t = 13
  · subst h13
    go_enter Try.func17, Try.ntmps17
    go_wp2_with fail
    go_ret
    exact ⟨rfl, rfl⟩
  by_cases h15 : t = 15
  · subst h15
    go_enter Try.func17, Try.ntmps17
    go_wp2_with fail
    go_ret
    exact ⟨rfl, rfl⟩
  have e7 : (t == 7) = false := by simp [h7]
  have e8 : (t == 8) = false := by simp [h8]
  have e12 : (t == 12) = false := by simp [h12]
  have e13 : (t == 13) = false := by simp [h13]
  have e15 : (t == 15) = false := by simp [h15]
  rw [show lsz t = 0 from by simp [lsz, h7, h8, h12, h13, h15]]
  clear h7 h8 h12 h13 h15
  go_enter Try.func17, Try.ntmps17
  go_wp2_with fail
  go_ret
  exact ⟨rfl, rfl⟩

theorem lsz_zero (t : Int) : (lsz t == 0) = !lkn t := by
  cases h : lkn t with
  | true => have := lsz_known h; simp; omega
  | false =>
    unfold lkn at h
    simp at h
    simp [lsz, h]

theorem msg_no {zs : List Int} {c : Int} (h : lye zs = c) (hc : c ≠ 0) : msg (pmT zs) (getAt2 zs (lyC zs)) (getAt2 zs (lyP zs)) (pmR zs) = msg 0 0 0 0 := by
  have hne : lye zs ≠ 0 := by omega
  rw [lyC_no hne, lyP_no hne, getAt2_neg, show pmT zs = 0 from by unfold pmT; rw [if_neg hne], show pmR zs = 0 from by unfold pmR; rw [if_neg (fun h => hne h.1)]]

/-- The head by its words. -/
theorem hdk_words {zs : List Int} (hB : Mt.By zs) (h12 : 12 ≤ zs.length) : (¬ 65535 < zs.length ∧ hdk zs = true) ↔ (getAt2 zs 0 = (zs.length : Int) ∧ getAt2 zs 2 = 1 ∧ getAt4 zs 4 = 439041101 ∧ getAt2 zs 10 = 0) := by
  have b0 := hB.at 0
  have b1 := hB.at 1
  have b2 := hB.at 2
  have b3 := hB.at 3
  have b4 := hB.at 4
  have b5 := hB.at 5
  have b6 := hB.at 6
  have b7 := hB.at 7
  have b8 := hB.at 8
  have b9 := hB.at 9
  have b10 := hB.at 10
  have b11 := hB.at 11
  have g0 : getAt2 zs 0 = zs[0]?.getD 0 * 256 + zs[1]?.getD 0 := by unfold getAt2; rw [if_pos (by omega)]; rfl
  have g2 : getAt2 zs 2 = zs[2]?.getD 0 * 256 + zs[3]?.getD 0 := by unfold getAt2; rw [if_pos (by omega)]; rfl
  have g8 : getAt2 zs 8 = zs[8]?.getD 0 * 256 + zs[9]?.getD 0 := by unfold getAt2; rw [if_pos (by omega)]; rfl
  have g10 : getAt2 zs 10 = zs[10]?.getD 0 * 256 + zs[11]?.getD 0 := by unfold getAt2; rw [if_pos (by omega)]; rfl
  have g4 : getAt4 zs 4 = (zs[4]?.getD 0 * 256 + zs[5]?.getD 0) * 65536 + (zs[6]?.getD 0 * 256 + zs[7]?.getD 0) := by unfold getAt4; rw [if_pos (by omega)]; rfl
  unfold hdk
  rw [g0, g2, g4, g10, g8]
  simp only [eqs, Bool.and_true, Bool.and_eq_true, beq_iff_eq]
  generalize zs[0]?.getD 0 = z0 at *
  generalize zs[1]?.getD 0 = z1 at *
  generalize zs[2]?.getD 0 = z2 at *
  generalize zs[3]?.getD 0 = z3 at *
  generalize zs[4]?.getD 0 = z4 at *
  generalize zs[5]?.getD 0 = z5 at *
  generalize zs[6]?.getD 0 = z6 at *
  generalize zs[7]?.getD 0 = z7 at *
  generalize zs[8]?.getD 0 = z8 at *
  generalize zs[9]?.getD 0 = z9 at *
  generalize zs[10]?.getD 0 = zA at *
  generalize zs[11]?.getD 0 = zB at *
  generalize zs.length = n at *
  clear hB g0 g2 g4 g8 g10
  omega
theorem lye_head4 {zs : List Int} (hB : Mt.By zs) (h12 : 12 ≤ zs.length) (h : ¬ (getAt2 zs 0 = (zs.length : Int) ∧ getAt2 zs 2 = 1 ∧ getAt4 zs 4 = 439041101 ∧ getAt2 zs 10 = 0)) : lye zs = 4 := by
  have h' := fun e => h ((hdk_words hB h12).1 e)
  unfold lye
  rw [if_neg (by omega)]
  split
  · rfl
  · rename_i hn
    rw [if_pos]
    cases hk : hdk zs with
    | false => rfl
    | true => exact absurd ⟨hn, hk⟩ h'
theorem lye_head0 {zs : List Int} (hB : Mt.By zs) (h12 : 12 ≤ zs.length) (h : getAt2 zs 0 = (zs.length : Int) ∧ getAt2 zs 2 = 1 ∧ getAt4 zs 4 = 439041101 ∧ getAt2 zs 10 = 0) : lye zs = if lkn (getAt2 zs 8) = false then 12 else if (zs.length : Int) ≠ lsz (getAt2 zs 8) then 4 else 0 := by
  obtain ⟨h1, h2⟩ := (hdk_words hB h12).2 h
  unfold lye
  rw [if_neg (by omega), if_neg h1, if_neg (by simp [h2])]
end Go.Proofs.Ytochdlmggbhmfaa
