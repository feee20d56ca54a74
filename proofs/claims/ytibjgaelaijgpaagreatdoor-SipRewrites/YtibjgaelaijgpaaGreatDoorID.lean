/- Package sip: headers as they lie in memory; how many bytes a message has. -/
import Derived.Test.YtibjgaelaijgpaaGreatDoorIC
namespace Go.Proofs.YtibjgaelaijgpaaGreatDoor
open Go.RowKit Go.Shelf
set_option maxRecDepth 100000
set_option linter.unusedVariables false
set_option linter.unusedSimpArgs false

/-- A header: its name, its value. -/
abbrev Hr := ByteArray × ByteArray
def hrc (h : Hr) : List Value := [.string h.1, .string h.2]
def hrs (l : List Hr) : List Value := l.flatMap hrc
theorem hrc_length (r : Hr) : (hrc r).length = 2 := rfl
theorem hrs_length (l : List Hr) : (hrs l).length = l.length * 2 := by
  induction l with
  | nil => rfl
  | cons r l ih => unfold hrs at ih ⊢; rw [List.flatMap_cons, List.length_append, ih, hrc_length, List.length_cons]; omega
theorem hrs_snoc (l : List Hr) (r : Hr) : hrs (l ++ [r]) = hrs l ++ hrc r := by unfold hrs; simp
theorem hrs_append (l m : List Hr) : hrs (l ++ m) = hrs l ++ hrs m := by unfold hrs; simp
theorem hrs_at : ∀ (l : List Hr) (j i : Nat) (hj : j < l.length), i < 2 → (hrs l)[j * 2 + i]? = (hrc l[j])[i]?
  | r :: l, 0, i, _, hi => by
    unfold hrs
    rw [List.flatMap_cons, Nat.zero_mul, Nat.zero_add, List.getElem?_append_left (by rw [hrc_length]; exact hi)]
    rfl
  | r :: l, j + 1, i, hj, hi => by
    have ih := hrs_at l j i (by simpa using hj) hi
    unfold hrs at ih ⊢
    rw [List.flatMap_cons, List.getElem?_append_right (by rw [hrc_length]; omega), hrc_length, show (j + 1) * 2 + i - 2 = j * 2 + i from by omega, ih]
    rfl
/-- The slice value reads as these rules, all of it below block n₀. -/
def RdM (n₀ : Nat) (W : World) (sv : Value) (l : List Hr) : Prop :=
  (∃ a cap, sv = .slice a 0 cap ∧ l = [] ∧ cap ≤ 9223372036854775807 ∧ (a = none → cap = 0)) ∨
  ∃ b off cap, sv = .slice (some ⟨b, off, none⟩) l.length cap ∧ l ≠ [] ∧ l.length ≤ cap ∧ cap ≤ 9223372036854775807 ∧ b < n₀ ∧ ∀ j (hj : j < l.length), ∀ i, i < 2 → W.cell? ⟨b, off + j * 2 + i, none⟩ = (hrc l[j])[i]?
theorem RdM.below {n₀ : Nat} {A B : World} (h : Below n₀ A B) {sv : Value} {l : List Hr} : RdM n₀ A sv l → RdM n₀ B sv l
  | .inl e => .inl e
  | .inr ⟨b, off, cap, e, hne, hl, hm, hb, hc⟩ => .inr ⟨b, off, cap, e, hne, hl, hm, hb, fun j hj i hi => (h.cell (p := ⟨b, off + j * 2 + i, none⟩) hb).trans (hc j hj i hi)⟩
theorem RdM.mono {n₀ n₁ : Nat} {A : World} (h : n₀ ≤ n₁) {sv : Value} {l : List Hr} : RdM n₀ A sv l → RdM n₁ A sv l
  | .inl e => .inl e
  | .inr ⟨b, off, cap, e, hne, hl, hm, hb, hc⟩ => .inr ⟨b, off, cap, e, hne, hl, hm, Nat.lt_of_lt_of_le hb h, hc⟩
theorem RdM.slice {n₀ : Nat} {A : World} {sv : Value} {l : List Hr} : RdM n₀ A sv l → ∃ a cap, sv = .slice a l.length cap ∧ l.length ≤ cap ∧ cap ≤ 9223372036854775807
  | .inl ⟨a, cap, e, hz, hm, _⟩ => ⟨a, cap, by rw [e, hz]; rfl, by rw [hz]; exact Nat.zero_le _, hm⟩
  | .inr ⟨b, off, cap, e, _, hl, hm, _⟩ => ⟨_, cap, e, hl, hm⟩
theorem RdM.cells {n₀ : Nat} {W : World} {sv : Value} {l : List Hr} (h : RdM n₀ W sv l) (hne : 0 < l.length) : ∃ b off cap, sv = .slice (some ⟨b, off, none⟩) l.length cap ∧ l.length ≤ cap ∧ cap ≤ 9223372036854775807 ∧ b < n₀ ∧ ∀ j (hj : j < l.length), ∀ i, i < 2 → W.cell? ⟨b, off + j * 2 + i, none⟩ = (hrc l[j])[i]? := by
  rcases h with ⟨a, cap, _, rfl, _⟩ | ⟨b, off, cap, e, _, hl, hm, hb, hc⟩
  · simp at hne
  · exact ⟨b, off, cap, e, hl, hm, hb, hc⟩
/-- What one's own row of rules reads as. -/
theorem ownM_rd {base : Nat} {W : World} {v : Value} {l : List Hr} (h : W.ownsRow base 44 2 v l.length (hrs l)) : RdM W.heap.size W v l := by
  obtain ⟨h1, ⟨rfl, h0⟩ | ⟨g, cap, cur, rfl, hg, hh, hl, hm, hs, hc⟩⟩ := h
  · have : l = [] := List.eq_nil_of_length_eq_zero h0
    subst this
    exact .inl ⟨none, 0, rfl, rfl, by omega, fun _ => rfl⟩
  · by_cases hn : l = []
    · subst hn
      exact .inl ⟨_, cap, rfl, rfl, by simpa [maxLen] using hm, fun h => by cases h⟩
    · refine .inr ⟨g, 0, cap, rfl, hn, hl, by simpa [maxLen] using hm, (Array.getElem?_eq_some_iff.1 hh).1, fun j hj i hi => ?_⟩
      rw [Nat.zero_add, block_cell hh, ← hrs_at l j i hj hi, ← hc, List.getElem?_take_of_lt (by omega)]
      simp
theorem RdM.later {A B : World} {v : Value} {l : List Hr} (h : RdM A.heap.size A v l) (k : Later A B) : RdM B.heap.size B v l := (h.below k).mono k.size
/-- How many bytes headers have; a message. -/
def hsz (hs : List Hr) : Nat := (hs.map fun h => h.1.size + 2 + h.2.size + 2).sum
def szM (st : ByteArray) (hs : List Hr) (n : Nat) : Nat := st.size + 2 + hsz hs + 2 + n
theorem hsz_snoc (l : List Hr) (h : Hr) : hsz (l ++ [h]) = hsz l + (h.1.size + 2 + h.2.size + 2) := by unfold hsz; simp
theorem hsz_take_le (l : List Hr) (k : Nat) : hsz (l.take k) ≤ hsz l := by
  have : hsz l = hsz (l.take k) + hsz (l.drop k) := by
    unfold hsz
    rw [← List.sum_append, ← List.map_append, List.take_append_drop]
  omega
theorem hsz_len (l : List Hr) : l.length ≤ hsz l := by
  induction l with
  | nil => simp
  | cons h l ih => unfold hsz at ih ⊢; simp only [List.map_cons, List.sum_cons, List.length_cons]; omega

set_option maxHeartbeats 4000000 in
theorem size_any (st : ByteArray) (hs : List Hr) (sv sb : Value) (zb : List Int) (w : World) (hI : RdM w.heap.size w sv hs) (hB : Rd w.heap.size w sb zb) (hz : szM st hs zb.length ≤ 9000000000000000000) :
    Calls Tryz.prog 37 #[.agg #[.string st, sv, sb]] w fun e w' => e = .returned (.int .i64 (szM st hs zb.length : Nat)) ∧ Later w w' := by
  obtain ⟨ah, ch, rfl, hl1, hm1⟩ := hI.slice
  obtain ⟨ab, cb, rfl, hl2, hm2⟩ := hB.slice
  have l0 : Later w (w.alloc (.cells #[.string st, .slice ah hs.length ch, .slice ab zb.length cb] 25)) := later_allocR _ _
  have C0 := hide (heap_alloc_new w (.cells #[.string st, .slice ah hs.length ch, .slice ab zb.length cb] 25))
  have HL := hsz_len hs
  have HZ : Hid (szM st hs zb.length = st.size + 2 + hsz hs + 2 + zb.length) := rfl
  have hz2 : st.size + 2 + hsz hs + 2 + zb.length ≤ 9000000000000000000 := hz
  go_enter Tryz.func37, Tryz.ntmps37
  go_upto_region 1 with fail
  generalize w.alloc _ = w0 at *
  have HI := hide (hI.later l0)
  generalize w.heap.size = gm at *
  have k0 := block_cell C0.out
  go_upto_region 3 with fail
  clear k0
  go_loopw [3, 13] (fun nv iv wr => ∃ k : Nat, k ≤ hs.length ∧ iv = .int .i64 (k : Int) ∧ nv = .int .i64 ((st.size + 2 + hsz (hs.take k) : Nat) : Int) ∧ Later w0 wr) (fun _ iv _ => hs.length - (intOf iv).toNat)
  case atStart => exact ⟨0, by omega, rfl, by simp [hsz], Later.refl _⟩
  case round =>
    obtain ⟨k, hk, rfl, rfl, lr⟩ := hrel
    by_cases hlt : k < hs.length
    · have hlt' : (k : Int) < (hs.length : Int) := by omega
      obtain ⟨b, off, cp, e, _, _, hbn, hcs⟩ := (HI.out.below lr).cells (by omega)
      cases e
      have d0 := hcs k hlt 0 (by omega)
      have d1 := hcs k hlt 1 (by omega)
      have hsn : hs.take (k + 1) = hs.take k ++ [hs[k]] := by rw [← List.take_append_getElem hlt]
      have hsz1 : hsz (hs.take (k + 1)) = hsz (hs.take k) + (hs[k].1.size + 2 + hs[k].2.size + 2) := by rw [hsn, hsz_snoc]
      have hle := hsz_take_le hs (k + 1)
      clear hcs hsn
      generalize hs[k] = r at *
      obtain ⟨x, y⟩ := r
      simp only [hrc, List.getElem?_cons_zero, List.getElem?_cons_succ, Nat.add_zero] at d0 d1 hsz1
      have HS1 := hide hsz1
      rw [hsz1] at hle
      clear hsz1
      generalize hsz (hs.take k) = n0 at *
      have la := later_allocR wr (.cells #[.string x, .string y] 44)
      have c1 := block_cell (heap_alloc_new wr (.cells #[.string x, .string y] 44))
      go_upto_region 5 with fail
      clear d0 d1
      generalize wr.alloc _ = wq at *
      go_wp2_with fail
      go_roundw
      case rel => exact ⟨k + 1, by omega, by go_num, by rw [HS1.out]; go_num, lr.trans la⟩
      case measure => simp [intOf]; omega
    · obtain rfl : k = hs.length := by omega
      have hnl : ¬ ((hs.length : Nat) : Int) < (hs.length : Int) := by omega
      rw [List.take_length]
      have k1 := block_cell (later_keep lr C0.out)
      go_wp2_with fail
      go_ret
      exact ⟨by rw [HZ.out]; congr 2, Later.trans l0 lr⟩
end Go.Proofs.YtibjgaelaijgpaaGreatDoor
