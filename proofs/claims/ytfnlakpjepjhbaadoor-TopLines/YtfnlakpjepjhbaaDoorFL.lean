/- bytes.HasSuffix, bytes.CutSuffix. -/
import Derived.Test.YtfnlakpjepjhbaaDoorFK
import Derived.Test.YtfnlakpjepjhbaaDoorV4
namespace Go.Proofs.YtfnlakpjepjhbaaDoor
open Go.RowKit Go.Shelf
set_option maxRecDepth 100000
set_option linter.unusedVariables false
set_option linter.unusedSimpArgs false

/-- Do bytes end with others? -/
def endB (zs ys : List Int) : Bool := decide (ys.length ≤ zs.length) && decide (zs.drop (zs.length - ys.length) = ys)

set_option maxHeartbeats 2000000 in
theorem hasSuffix_any (bb off cp n₀ : Nat) (zs ys : List Int) (yb : Nat) (w : World) (hz : Mt.By zs) (hy : Mt.By ys) (hI : Rd n₀ w (.slice (some ⟨bb, off, none⟩) zs.length cp) zs) (hY : Rd w.heap.size w (.slice (some ⟨yb, 0, none⟩) ys.length ys.length) ys) (hyp : 0 < ys.length) :
    Calls Tryd.prog 46 #[.slice (some ⟨bb, off, none⟩) zs.length cp, .slice (some ⟨yb, 0, none⟩) ys.length ys.length] w fun e w' => e = .returned (.bool (endB zs ys)) ∧ w' = w := by
  obtain ⟨_, _, e, hc1, hc2⟩ := hI.slice
  simp at e
  obtain ⟨e0, rfl⟩ := e
  clear e0
  by_cases hle : ys.length ≤ zs.length
  · have h1 : (ys.length : Int) ≤ (zs.length : Int) := by omega
    obtain ⟨d, hd⟩ : ∃ d, d = zs.length - ys.length := ⟨_, rfl⟩
    have e1 : (zs.length : Int) - (ys.length : Int) = (d : Int) := by omega
    have hR := Rd.mid d ys.length hI (by omega) hyp
    have e2 : (zs.drop d).take ys.length = zs.drop d := List.take_of_length_le (by simp; omega)
    rw [e2] at hR
    have e3 : zs.length - d = ys.length := by omega
    have hR' : Rd n₀ w (.slice (some ⟨bb, off + d, none⟩) (zs.length - d) (cp - d)) (zs.drop d) := by rw [e3]; exact hR
    have HEQ := hide (equal_any _ _ (zs.drop d) ys w (fun z hzz => hz z (List.mem_of_mem_drop hzz)) hy hR' hY)
    have HV : Hid (endB zs ys = decide (zs.drop d = ys)) := by show _ = _; unfold endB; rw [hd]; simp [hle]
    have g1 : (d : Int) ≤ (zs.length : Int) := by omega
    have g2 : ¬ cp = d := by omega
    have g3 : (zs.length : Int) ≤ (cp : Int) := by omega
    have g4 : (zs.length : Int) ≤ 9223372036854775807 := by omega
    have HE1 := hide e1
    generalize endB zs ys = z at *
    generalize decide (zs.drop d = ys) = zz at *
    clear hR hR' e2 e3 hI hY hd
    go_enter Tryd.func46, Tryd.ntmps46
    go_wp2_with fail
    refine HEQ.out.mono ?_
    rintro e w1 ⟨rfl, rfl⟩
    go_wp2_with fail
    go_ret
    exact ⟨by rw [HV.out]; rfl, rfl⟩
  · have h1 : ¬ (ys.length : Int) ≤ (zs.length : Int) := by omega
    have HV : Hid (endB zs ys = false) := by show _ = _; unfold endB; simp [hle]
    generalize endB zs ys = z at *
    clear hI hY
    go_enter Tryd.func46, Tryd.ntmps46
    go_wp2_with fail
    go_ret
    exact ⟨by rw [HV.out]; rfl, rfl⟩

set_option maxHeartbeats 2000000 in
theorem cutSuffix_any (bb off cp n₀ : Nat) (zs ys : List Int) (yb : Nat) (w : World) (hz : Mt.By zs) (hy : Mt.By ys) (hI : Rd n₀ w (.slice (some ⟨bb, off, none⟩) zs.length cp) zs) (hY : Rd w.heap.size w (.slice (some ⟨yb, 0, none⟩) ys.length ys.length) ys) (hyp : 0 < ys.length) :
    Calls Tryd.prog 30 #[.slice (some ⟨bb, off, none⟩) zs.length cp, .slice (some ⟨yb, 0, none⟩) ys.length ys.length] w fun e w' => e = .returned (.tuple #[.slice (some ⟨bb, off, none⟩) (if endB zs ys = true then zs.length - ys.length else zs.length) cp, .bool (endB zs ys)]) ∧ w' = w := by
  obtain ⟨_, _, e, hc1, hc2⟩ := hI.slice
  simp at e
  obtain ⟨e0, rfl⟩ := e
  clear e0
  have HHS := hide (hasSuffix_any bb off cp n₀ zs ys yb w hz hy hI hY hyp)
  cases he : endB zs ys with
  | true =>
    have hle : ys.length ≤ zs.length := by unfold endB at he; simp at he; exact he.1
    obtain ⟨d, hd⟩ : ∃ d, d = zs.length - ys.length := ⟨_, rfl⟩
    have e1 : (zs.length : Int) - (ys.length : Int) = (d : Int) := by omega
    have g1 : (d : Int) ≤ (cp : Int) := by omega
    have g2 : d ≤ cp := by omega
    have g4 : (zs.length : Int) ≤ 9223372036854775807 := by omega
    rw [he] at HHS
    rw [if_pos rfl, ← hd]
    clear hI hY he hd hle
    go_enter Tryd.func30, Tryd.ntmps30
    go_wp2_with fail
    refine HHS.out.mono ?_
    rintro e w1 ⟨rfl, rfl⟩
    go_wp2_with fail
    exact bodyPost_ret (v := .tuple #[.slice (some ⟨bb, off, none⟩) d cp, .bool true]) (by simp [results, Tryd.results30, go_sem]) rfl ⟨rfl, rfl⟩
  | false =>
    rw [he] at HHS
    rw [if_neg (by simp)]
    clear hI hY he
    go_enter Tryd.func30, Tryd.ntmps30
    go_wp2_with fail
    refine HHS.out.mono ?_
    rintro e w1 ⟨rfl, rfl⟩
    go_wp2_with fail
    exact bodyPost_ret (v := .tuple #[.slice (some ⟨bb, off, none⟩) zs.length cp, .bool false]) (by simp [results, Tryd.results30, go_sem]) rfl ⟨rfl, rfl⟩
end Go.Proofs.YtfnlakpjepjhbaaDoor
