/- The law's 'live' of layer 2. -/
import Derived.Test.YtiigmhddnaocoacV4
import Derived.Test.YtiigmhddnaocoacHd
namespace Go.Proofs.Ytiigmhddnaocoac
open Go.RowKit Go.Shelf

theorem rd_zero (w : World) : Rd w.heap.size w (.slice none 0 0) [] := .inl ⟨none, 0, rfl, rfl, by omega, fun _ => rfl⟩
theorem hdr_zero : hdr 0 0 false 0 0 0 0 [] 20 = [69, 0, 0, 20, 0, 0, 0, 0, 0, 0, 186, 235, 0, 0, 0, 0, 0, 0, 0, 0] := by decide +kernel

set_option maxHeartbeats 2000000 in
theorem live2_any (w : World) : Calls Try.prog 11 #[] w fun e w' => e = .returned (.bool true) ∧ Below w.heap.size w w' := by
  go_enter Try.func11, Try.ntmps11
  go_wp2_with fail
  refine (build_yes 0 0 0 0 0 0 false _ _ [] [] _ Mt.By.nil (rd_zero _) (rd_zero _) (by simp) (by simp) (by simp) (by omega) (by omega) (by omega) (by omega) (by omega) (by omega)).mono ?_
  rintro e w2 ⟨v2, rfl, hO2, hb2⟩
  have hO3 : Ow w.heap.size w2 v2 [69, 0, 0, 20, 0, 0, 0, 0, 0, 0, 186, 235, 0, 0, 0, 0, 0, 0, 0, 0] := by
    rw [← hdr_zero]
    simpa using hO2
  obtain ⟨a2, cap2, rfl, hl2, hm2⟩ := hO3.slice
  obtain ⟨g, rfl, _, _, hcf, _⟩ := hO3.at (by simp)
  have c0 := (hcf 0 (by simp)).1
  have c3 := (hcf 3 (by simp)).1
  have c10 := (hcf 10 (by simp)).1
  have c11 := (hcf 11 (by simp)).1
  simp at c0 c3 c10 c11 hl2
  clear hO2 hO3 hcf
  go_wp2_with fail
  refine (right_any 0 0 0 0 0 0 false none none 0 0 0 0 _ (by omega) (by omega)).mono ?_
  rintro e w3 ⟨rfl, hb3⟩
  rw [show (flt 0 0 == 0) = true from rfl]
  go_wp2
  go_ret
  exact ⟨rfl, hb2.trans (hb3.mono hb2.size)⟩
end Go.Proofs.Ytiigmhddnaocoac
