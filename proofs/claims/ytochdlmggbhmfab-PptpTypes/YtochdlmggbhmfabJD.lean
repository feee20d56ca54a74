/- Layer 15: a Clear, and what must be whatever is asked. -/
import Derived.Test.YtochdlmggbhmfabJC
namespace Go.Proofs.Ytochdlmggbhmfab
open Go.RowKit Go.Shelf
set_option maxRecDepth 100000
set_option linter.unusedVariables false
set_option linter.unusedSimpArgs false

theorem later_alloc (w : World) (o : Obj) : Later w (w.alloc o) := (Below.refl _ _).alloc (Nat.le_refl _) _

/-- A Clear's bytes. -/
def clr (c : Int) : List Int := [0, 16, 0, 1, 26, 43, 60, 77, 0, 12, 0, 0, c / 256, c % 256, 0, 0]
theorem clr_by (c : Int) (h : 0 ≤ c ∧ c ≤ 65535) : Mt.By (clr c) := by
  intro z hz
  simp only [clr, List.mem_cons, List.not_mem_nil, or_false] at hz
  rcases hz with rfl | rfl | rfl | rfl | rfl | rfl | rfl | rfl | rfl | rfl | rfl | rfl | rfl | rfl | rfl | rfl <;> omega
theorem clr_len (c : Int) : (clr c).length = 16 := rfl

theorem clearOf_any (c : Int) (hc : 0 ≤ c ∧ c ≤ 65535) (w : World) :
    Calls Try.prog 11 #[.int .u16 c] w fun e w' => e = .returned (.slice (some ⟨w.heap.size, 0, none⟩) 16 16) ∧ Ow w.heap.size w' (.slice (some ⟨w.heap.size, 0, none⟩) 16 16) (clr c) ∧ Later w w' := by
  go_enter Try.func11, Try.ntmps11
  go_wp2
  go_ret
  exact ⟨rfl, .inr ⟨_, 16, _, rfl, Nat.le_refl _, by simp [clr], by simp, by omega, heap_alloc_new w _, by simp [clr]⟩, (Below.refl _ _).alloc (Nat.le_refl _) _⟩

theorem wat_clr8 (c : Int) : getAt2 (clr c) 8 = 12 := by unfold getAt2; rw [clr_len, if_pos (by omega)]; rfl
theorem lye_clr (c : Int) : lye (clr c) = 0 := by
  unfold lye
  rw [clr_len, wat_clr8, if_neg (by omega), if_neg (by omega), if_neg, if_neg (by decide), if_neg (by decide)]
  unfold hdk
  rw [wat_clr8, clr_len]
  simp [clr, eqs]
theorem lyC_clr (c : Int) : lyC (clr c) = 12 := by unfold lyC; rw [if_pos (lye_clr c), wat_clr8]; rfl
theorem lyP_clr (c : Int) : lyP (clr c) = -1 := by unfold lyP; rw [if_pos (lye_clr c), wat_clr8]; rfl
theorem parse_clr (c : Int) : msg (pmT (clr c)) (getAt2 (clr c) (lyC (clr c))) (getAt2 (clr c) (lyP (clr c))) (pmR (clr c)) = msg 12 c 0 0 := by
  rw [lyC_clr, lyP_clr, getAt2_neg]
  have h1 : pmT (clr c) = 12 := by unfold pmT; rw [if_pos (lye_clr c), wat_clr8]
  have h2 : pmR (clr c) = 0 := by unfold pmR; rw [wat_clr8, if_neg (by omega)]
  have h3 : getAt2 (clr c) 12 = c := by
    unfold getAt2
    rw [clr_len, if_pos (by omega)]
    show c / 256 * 256 + c % 256 = c
    omega
  rw [h1, h2, h3]

set_option maxHeartbeats 4000000 in
theorem live15_any (w : World) : Calls Try.prog 6 #[] w fun e w' => e = .returned (.bool true) ∧ Later w w' := by
  have HP := hide (parse_clr 7)
  have HS : Hid (lsz 8 = 32) := rfl
  have HE := hide (lye_clr 7)
  go_enter Try.func6, Try.ntmps6
  go_wp2_with fail
  refine (clearOf_any 7 (by omega) w).mono ?_
  rintro e w1 ⟨rfl, hO, l1⟩
  go_wp2_with fail
  refine (parse15_any _ (clr 7) (clr_by 7 (by omega)) w1 (Nat.le_refl _) hO.rd).mono ?_
  rintro e w2 ⟨rfl, l2⟩
  rw [HP.out, HE.out]
  go_wp2_with fail
  refine (size15_any 8 _).mono ?_
  rw [HS.out]
  rintro e w3 ⟨rfl, l3⟩
  go_wp2_with fail
  go_ret
  exact ⟨rfl, l1.trans (l2.trans ((later_alloc _ _).trans l3))⟩
end Go.Proofs.Ytochdlmggbhmfab
