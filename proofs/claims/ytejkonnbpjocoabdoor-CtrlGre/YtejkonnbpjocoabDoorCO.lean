/- The document's ParseGre: the beginning. -/
import Derived.Test.YtejkonnbpjocoabDoorCN
namespace Go.Proofs.YtejkonnbpjocoabDoor
open Go.RowKit Go.Shelf
set_option maxRecDepth 100000
set_option linter.unusedVariables false
set_option linter.unusedSimpArgs false

set_option maxHeartbeats 8000000 in
theorem rbegin_any (sv : Value) (zs : List Int) (h4 : 4 ≤ zs.length) (w : World) (hI : Rd w.heap.size w sv zs) :
    Calls Tryd.prog 23 #[sv] w fun e w' => e = .returned (.bool (bgk (bgz zs))) ∧ Below w.heap.size w w' := by
  obtain ⟨b, off, cap, rfl, hlc, hmc, hbb, hcs⟩ := hI.cells (by omega)
  unfold bgz
  have d0 : w.cell? ⟨b, off, none⟩ = some (.int .u8 (zs[0]?.getD 0)) := hcs 0 (by omega)
  have d1 := hcs 1 (by omega)
  have d2 := hcs 2 (by omega)
  have d3 := hcs 3 (by omega)
  clear hcs hI
  generalize zs[0]?.getD 0 = x0 at *
  generalize zs[1]?.getD 0 = x1 at *
  generalize zs[2]?.getD 0 = x2 at *
  generalize zs[3]?.getD 0 = x3 at *
  generalize zs.length = n at *
  have i4 : 4 ≤ (n : Int) := by omega
  have i4' : ¬ (n : Int) < 4 := by omega
  have i0 : 0 < n := by omega
  have i1 : (1 : Int) < n := by omega
  have i2 : (2 : Int) < n := by omega
  have i3 : (3 : Int) < n := by omega
  cases ap : (x0 == 32)
  · cases aq : (x0 == 48)
    · skip
      have HV : Hid (bgk (bgo x0 x1 x2 x3) = false) := by show _ = _; simp [bgo, bgk, pick4, *]
      go_enter Tryd.func23, Tryd.ntmps23
      go_wp2
      go_ret
      exact ⟨by rw [HV.out]; rfl, Below.refl _ _⟩
    · skip
      cases bp : (x1 == 1)
      · cases bq : (x1 == 129)
        · skip
          have HV : Hid (bgk (bgo x0 x1 x2 x3) = false) := by show _ = _; simp [bgo, bgk, pick4, *]
          go_enter Tryd.func23, Tryd.ntmps23
          go_wp2
          go_ret
          exact ⟨by rw [HV.out]; rfl, Below.refl _ _⟩
        · skip
          cases cp : (x2 == 136)
          · skip
            have HV : Hid (bgk (bgo x0 x1 x2 x3) = false) := by show _ = _; simp [bgo, bgk, pick4, *]
            go_enter Tryd.func23, Tryd.ntmps23
            go_wp2
            go_ret
            exact ⟨by rw [HV.out]; rfl, Below.refl _ _⟩
          · cases dp : (x3 == 11)
            · skip
              have HV : Hid (bgk (bgo x0 x1 x2 x3) = false) := by show _ = _; simp [bgo, bgk, pick4, *]
              go_enter Tryd.func23, Tryd.ntmps23
              go_wp2
              go_ret
              exact ⟨by rw [HV.out]; rfl, Below.refl _ _⟩
            · skip
              have HV : Hid (bgk (bgo x0 x1 x2 x3) = true) := by show _ = _; simp [bgo, bgk, pick4, *]
              go_enter Tryd.func23, Tryd.ntmps23
              go_wp2
              go_ret
              exact ⟨by rw [HV.out]; rfl, Below.refl _ _⟩
      · have bq : (x1 == 129) = false := by have := beq_iff_eq.1 bp; subst this; rfl
        cases cp : (x2 == 136)
        · skip
          have HV : Hid (bgk (bgo x0 x1 x2 x3) = false) := by show _ = _; simp [bgo, bgk, pick4, *]
          go_enter Tryd.func23, Tryd.ntmps23
          go_wp2
          go_ret
          exact ⟨by rw [HV.out]; rfl, Below.refl _ _⟩
        · cases dp : (x3 == 11)
          · skip
            have HV : Hid (bgk (bgo x0 x1 x2 x3) = false) := by show _ = _; simp [bgo, bgk, pick4, *]
            go_enter Tryd.func23, Tryd.ntmps23
            go_wp2
            go_ret
            exact ⟨by rw [HV.out]; rfl, Below.refl _ _⟩
          · skip
            have HV : Hid (bgk (bgo x0 x1 x2 x3) = true) := by show _ = _; simp [bgo, bgk, pick4, *]
            go_enter Tryd.func23, Tryd.ntmps23
            go_wp2
            go_ret
            exact ⟨by rw [HV.out]; rfl, Below.refl _ _⟩
  · have aq : (x0 == 48) = false := by have := beq_iff_eq.1 ap; subst this; rfl
    cases bp : (x1 == 1)
    · cases bq : (x1 == 129)
      · skip
        have HV : Hid (bgk (bgo x0 x1 x2 x3) = false) := by show _ = _; simp [bgo, bgk, pick4, *]
        go_enter Tryd.func23, Tryd.ntmps23
        go_wp2
        go_ret
        exact ⟨by rw [HV.out]; rfl, Below.refl _ _⟩
      · skip
        cases cp : (x2 == 136)
        · skip
          have HV : Hid (bgk (bgo x0 x1 x2 x3) = false) := by show _ = _; simp [bgo, bgk, pick4, *]
          go_enter Tryd.func23, Tryd.ntmps23
          go_wp2
          go_ret
          exact ⟨by rw [HV.out]; rfl, Below.refl _ _⟩
        · cases dp : (x3 == 11)
          · skip
            have HV : Hid (bgk (bgo x0 x1 x2 x3) = false) := by show _ = _; simp [bgo, bgk, pick4, *]
            go_enter Tryd.func23, Tryd.ntmps23
            go_wp2
            go_ret
            exact ⟨by rw [HV.out]; rfl, Below.refl _ _⟩
          · skip
            have HV : Hid (bgk (bgo x0 x1 x2 x3) = true) := by show _ = _; simp [bgo, bgk, pick4, *]
            go_enter Tryd.func23, Tryd.ntmps23
            go_wp2
            go_ret
            exact ⟨by rw [HV.out]; rfl, Below.refl _ _⟩
    · have bq : (x1 == 129) = false := by have := beq_iff_eq.1 bp; subst this; rfl
      cases cp : (x2 == 136)
      · skip
        have HV : Hid (bgk (bgo x0 x1 x2 x3) = false) := by show _ = _; simp [bgo, bgk, pick4, *]
        go_enter Tryd.func23, Tryd.ntmps23
        go_wp2
        go_ret
        exact ⟨by rw [HV.out]; rfl, Below.refl _ _⟩
      · cases dp : (x3 == 11)
        · skip
          have HV : Hid (bgk (bgo x0 x1 x2 x3) = false) := by show _ = _; simp [bgo, bgk, pick4, *]
          go_enter Tryd.func23, Tryd.ntmps23
          go_wp2
          go_ret
          exact ⟨by rw [HV.out]; rfl, Below.refl _ _⟩
        · skip
          have HV : Hid (bgk (bgo x0 x1 x2 x3) = true) := by show _ = _; simp [bgo, bgk, pick4, *]
          go_enter Tryd.func23, Tryd.ntmps23
          go_wp2
          go_ret
          exact ⟨by rw [HV.out]; rfl, Below.refl _ _⟩
end Go.Proofs.YtejkonnbpjocoabDoor
