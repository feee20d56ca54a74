/- What Parse answers of what was built: messages and frames. -/
import Derived.Test.YtcdeiakeiehaaaaDoorCK
namespace Go.Proofs.YtcdeiakeiehaaaaDoor
open Go.RowKit Go.Shelf
set_option maxRecDepth 100000
set_option linter.unusedVariables false
set_option linter.unusedSimpArgs false

theorem flt_fit {lo ld : Nat} (hf : flt lo ld = 0) : lo ≤ 40 ∧ lo % 4 = 0 ∧ 20 + lo + ld ≤ 65535 := by
  unfold flt at hf
  split at hf <;> first | omega | (split at hf <;> omega)

/-- A message's check sum is good. -/
theorem icm_good (ty cde rest : Int) (zd : List Int) (h1 : 0 ≤ ty ∧ ty ≤ 255) (h2 : 0 ≤ cde ∧ cde ≤ 255) (h3 : 0 ≤ rest ∧ rest ≤ 4294967295) (hB : Mt.By zd) : Mt.cks (icm ty cde rest zd) = 0 := by
  have hn := Mt.tw_nonneg true _ (By_icm0 ty cde rest zd h1 h2 h3 hB)
  have ht := Mt.tw_put2 (icm0 ty cde rest zd) 2 (Mt.cks (icm0 ty cde rest zd)) (by omega) (by rw [icm0_length]; omega)
  have hz : (icm0 ty cde rest zd)[2]?.getD 0 = 0 ∧ (icm0 ty cde rest zd)[2 + 1]?.getD 0 = 0 := ⟨rfl, rfl⟩
  rw [hz.1, hz.2] at ht
  unfold icm
  have hg := Mt.fd_good _ hn
  unfold Mt.cks at ht ⊢
  rw [ht, show Mt.tw true (icm0 ty cde rest zd) + (65535 - Mt.fd (Mt.tw true (icm0 ty cde rest zd))) - (0 * 256 + 0) = Mt.tw true (icm0 ty cde rest zd) + (65535 - Mt.fd (Mt.tw true (icm0 ty cde rest zd))) from by omega, hg]
  rfl
theorem icm_drop (ty cde rest : Int) (zd : List Int) : (icm ty cde rest zd).drop 8 = zd := by simp [icm, Mt.put2, icm0]
theorem icm_0 (ty cde rest : Int) (zd : List Int) : (icm ty cde rest zd)[0]?.getD 0 = ty := by simp [icm, Mt.put2, icm0]
theorem icm_1 (ty cde rest : Int) (zd : List Int) : (icm ty cde rest zd)[1]?.getD 0 = cde := by simp [icm, Mt.put2, icm0]
theorem icm_4 (ty cde rest : Int) (zd : List Int) : wat4 (icm ty cde rest zd) 4 = rest := by simp [icm, Mt.put2, icm0, wat4, wat]; omega
theorem icm_pie (ty cde rest : Int) (zd : List Int) (h1 : 0 ≤ ty ∧ ty ≤ 255) (h2 : 0 ≤ cde ∧ cde ≤ 255) (h3 : 0 ≤ rest ∧ rest ≤ 4294967295) (hB : Mt.By zd) : pie 1 (icm ty cde rest zd) = 0 := by
  unfold pie
  rw [if_neg (by simp), icm_length, if_neg (by omega), icm_good ty cde rest zd h1 h2 h3 hB]
  simp
theorem icm_parts (ty cde rest : Int) (zd : List Int) (h : pie 1 (icm ty cde rest zd) = 0) : pty 1 (icm ty cde rest zd) = ty ∧ pcd 1 (icm ty cde rest zd) = cde ∧ prs 1 (icm ty cde rest zd) = rest ∧ pdt 1 (icm ty cde rest zd) = zd := by
  unfold pty pcd prs pdt
  rw [if_pos h, if_pos h, if_pos h, if_pos h, icm_0, icm_1, icm_4, icm_drop]
  exact ⟨rfl, rfl, rfl, rfl⟩

/-- The beginning's number. -/
def bgn (hs ha : Bool) : Nat := (if hs then 1 else 0) + (if ha then 2 else 0)
theorem grb_bgz (cl : Int) (hs ha : Bool) (sq ak : Int) (zd : List Int) : bgz (grb cl hs ha sq ak zd) = bgn hs ha := by
  cases hs <;> cases ha <;> rfl
theorem grb_take (cl : Int) (hs ha : Bool) (sq ak : Int) (zd : List Int) (m : Nat) (hm : 8 ≤ m) : bgz ((grb cl hs ha sq ak zd).take m) = bgn hs ha := by
  unfold bgz
  rw [List.getElem?_take_of_lt (by omega), List.getElem?_take_of_lt (by omega), List.getElem?_take_of_lt (by omega), List.getElem?_take_of_lt (by omega)]
  exact grb_bgz cl hs ha sq ak zd
theorem ghd_bgn (hs ha : Bool) (n : Nat) : ghd (bgn hs ha) + n = grn hs ha n := by cases hs <;> cases ha <;> simp [ghd, bgn, grn]
theorem bgn_ne (hs ha : Bool) : bgn hs ha ≠ 4 := by cases hs <;> cases ha <;> simp [bgn]
theorem grb_wat4 (cl : Int) (hs ha : Bool) (sq ak : Int) (zd more : List Int) (h : zd.length ≤ 65535) : wat (grb cl hs ha sq ak zd ++ more) 4 = zd.length := by
  unfold wat grb
  simp
  omega
theorem grb_pge (cl : Int) (hs ha : Bool) (sq ak : Int) (zd : List Int) (h : zd.length ≤ 65535) : pge 47 (grb cl hs ha sq ak zd) = 0 := by
  have hw := grb_wat4 cl hs ha sq ak zd [] h
  rw [List.append_nil] at hw
  have hg := ghd_bgn hs ha zd.length
  have hb := ghd_bd (bgn hs ha)
  unfold pge
  rw [if_neg (by simp), grb_length, grb_bgz, hw, if_neg (by omega), if_neg (bgn_ne hs ha), if_neg (by omega), if_neg (by omega)]
theorem grb_parts (cl : Int) (hs ha : Bool) (sq ak : Int) (zd : List Int) (hcl : 0 ≤ cl) (hsq : 0 ≤ sq) (hak : 0 ≤ ak) (hg : grf hs ha sq ak = false) (h : pge 47 (grb cl hs ha sq ak zd) = 0) :
    gcl 47 (grb cl hs ha sq ak zd) = cl ∧ gh1 47 (grb cl hs ha sq ak zd) = hs ∧ gh2 47 (grb cl hs ha sq ak zd) = ha ∧ gq1 47 (grb cl hs ha sq ak zd) = sq ∧ gq2 47 (grb cl hs ha sq ak zd) = ak ∧ gdt 47 (grb cl hs ha sq ak zd) = zd := by
  unfold gcl gh1 gh2 gq1 gq2 gdt
  rw [if_pos h, if_pos h, if_pos h, if_pos h, if_pos h, if_pos h, grb_bgz]
  clear h
  cases hs <;> cases ha <;> simp [grf] at hg
  · obtain ⟨rfl, rfl⟩ := hg
    refine ⟨?_, rfl, rfl, rfl, rfl, ?_⟩
    · simp [getAt2, grb, num4, wat]; omega
    · simp [ghd, bgn, grb, num4]
  · subst hg
    refine ⟨?_, rfl, rfl, rfl, ?_, ?_⟩
    · simp [getAt2, grb, num4, wat]; omega
    · simp [gak, bgn, getAt4, grb, num4, wat4, wat]; omega
    · simp [ghd, bgn, grb, num4]
  · subst hg
    refine ⟨?_, rfl, rfl, ?_, rfl, ?_⟩
    · simp [getAt2, grb, num4, wat]; omega
    · simp [gsq, bgn, getAt4, grb, num4, wat4, wat]; omega
    · simp [ghd, bgn, grb, num4]
  · refine ⟨?_, rfl, rfl, ?_, ?_, ?_⟩
    · simp [getAt2, grb, num4, wat]; omega
    · simp [gsq, bgn, getAt4, grb, num4, wat4, wat]; omega
    · simp [gak, bgn, getAt4, grb, num4, wat4, wat]; omega
    · simp [ghd, bgn, grb, num4]
/-- A frame's bytes that are cut, and one more. -/
theorem grb_cut (cl : Int) (hs ha : Bool) (sq ak : Int) (zd : List Int) (m : Nat) (h : zd.length ≤ 65535) (hm : m < grn hs ha zd.length) : pge 47 ((grb cl hs ha sq ak zd).take m) = 3 := by
  have hl : ((grb cl hs ha sq ak zd).take m).length = m := by rw [List.length_take, grb_length]; omega
  have hb := ghd_bd (bgn hs ha)
  have hg := ghd_bgn hs ha zd.length
  unfold pge
  rw [if_neg (by simp), hl]
  by_cases h8 : m < 8
  · rw [if_pos h8]
  · have hw : wat ((grb cl hs ha sq ak zd).take m) 4 = zd.length := by
      unfold wat
      rw [List.getElem?_take_of_lt (by omega), List.getElem?_take_of_lt (by omega)]
      have := grb_wat4 cl hs ha sq ak zd [] h
      rw [List.append_nil] at this
      exact this
    rw [if_neg h8, grb_take cl hs ha sq ak zd m (by omega), if_neg (bgn_ne hs ha), hw, if_pos (by omega)]
theorem grb_more (cl : Int) (hs ha : Bool) (sq ak : Int) (zd : List Int) (h : zd.length ≤ 65535) : pge 47 (grb cl hs ha sq ak zd ++ [0]) = 4 := by
  have hb := ghd_bd (bgn hs ha)
  have hg := ghd_bgn hs ha zd.length
  have hbz : bgz (grb cl hs ha sq ak zd ++ [0]) = bgn hs ha := by cases hs <;> cases ha <;> rfl
  unfold pge
  rw [if_neg (by simp), List.length_append, grb_length, hbz, grb_wat4 cl hs ha sq ak zd [0] h, if_neg (by simp; omega), if_neg (bgn_ne hs ha), if_neg (by simp; omega), if_pos (by simp; omega)]
end Go.Proofs.YtcdeiakeiehaaaaDoor
