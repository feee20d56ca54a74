/- Package expect: the first that is wanted; those that are and the others. -/
import Derived.Test.YtbimdhapkbdmjaaEB
namespace Go.Proofs.Ytbimdhapkbdmjaa
open Go.RowKit Go.Shelf
set_option maxRecDepth 100000
set_option linter.unusedVariables false
set_option linter.unusedSimpArgs false

/-- What is told of the first that is wanted. -/
def ixP (q : Ex → Bool) (l : List Ex) (e : Ending) : Prop := (∃ k, ∃ h : k < l.length, e = .returned (.int .i64 (k : Int)) ∧ q l[k] = true ∧ ∀ x ∈ l.take k, q x = false) ∨ (e = .returned (.int .i64 (-1)) ∧ ∀ x ∈ l, q x = false)

set_option maxHeartbeats 4000000 in
theorem index12_any (n₀ cf : Nat) (lb : Array Value) (v : Value) (l : List Ex) (q : Ex → Bool) (w : World) (hR : RdV n₀ w v l) (hn : n₀ ≤ w.heap.size) (hl : l.length ≤ 5000)
    (eg : ∀ args w, (callFunc cf args).run Try.prog w = .ok (.enter cf args) w)
    (hcl : ∀ x ∈ l, ∀ W, Later w W → Calls Try.prog cf (#[.agg (exc x).toArray] ++ lb) W fun e W' => e = .returned (.bool (q x)) ∧ Later W W') :
    Calls Try.prog 33 #[v, .func (.func cf) #[] lb] w fun e w' => ixP q l e ∧ Later w w' := by
  obtain ⟨sa, cap, rfl, hc1, hc2⟩ := hR.slice
  have HR := hide hR
  have HCL := hide hcl
  have HEG := hide eg
  have hli : (l.length : Int) ≤ 5000 := by omega
  clear hR hcl eg
  go_enter Try.func33, Try.ntmps33
  go_wp2_with fail
  go_loopw [8] (fun i wr => ∃ k : Nat, k ≤ l.length ∧ i = .int .i64 (k : Int) ∧ (∀ x ∈ l.take k, q x = false) ∧ Later w wr) (fun i _ => l.length - (intOf i).toNat)
  case atStart => exact ⟨0, by omega, rfl, by simp, Later.refl _⟩
  case round =>
    obtain ⟨k, hk, rfl, hno, lr⟩ := hrel
    have HNO := hide hno
    clear hno
    by_cases hkl : k < l.length
    · obtain ⟨g, off, cp, e, _, _, hgn, hcs⟩ := (HR.out.below (lr.mono hn)).cells (by omega)
      simp at e
      obtain ⟨rfl, rfl⟩ := e
      have c0 := hcs k hkl 0 (by omega)
      have c1 := hcs k hkl 1 (by omega)
      have c2 := hcs k hkl 2 (by omega)
      have c3 := hcs k hkl 3 (by omega)
      have c4 := hcs k hkl 4 (by omega)
      have c5 := hcs k hkl 5 (by omega)
      have c6 := hcs k hkl 6 (by omega)
      have c7 := hcs k hkl 7 (by omega)
      have c8 := hcs k hkl 8 (by omega)
      have hkl' : (k : Int) < l.length := by omega
      have htk : l.take (k + 1) = l.take k ++ [l[k]] := (List.take_append_getElem hkl).symm
      have HTK := hide htk
      have HAT : Hid (∃ h : k < l.length, l[k] = l[k]) := ⟨hkl, rfl⟩
      have HC := hide (HCL.out l[k] (List.getElem_mem hkl) wr lr)
      have HG : Hid (∀ b, q l[k] = b → q l[k] = b) := fun b h => h
      clear hcs htk
      cases hq : q l[k] with
      | true =>
        rw [hq] at HC
        have HF : Hid (ixP q l (.returned (.int .i64 (k : Int)))) := .inl ⟨k, hkl, rfl, hq, HNO.out⟩
        clear HTK HAT HG hq
        generalize l[k] = r at *
        simp only [exc, List.getElem?_cons_zero, List.getElem?_cons_succ, Nat.add_zero] at c0 c1 c2 c3 c4 c5 c6 c7 c8
        go_wp2_with fail
        rw [HEG.out]
        simp only [Oper.upon]
        refine HC.out.mono ?_
        rintro e w1 ⟨rfl, l1⟩
        have L1 := lr.trans l1
        clear c0 c1 c2 c3 c4 c5 c6 c7 c8
        go_wp2_with fail
        go_ret
        exact ⟨HF.out, L1⟩
      | false =>
        rw [hq] at HC
        have HF : Hid (∀ x ∈ l.take (k + 1), q x = false) := fun x hx => by
          rw [HTK.out] at hx
          rcases List.mem_append.1 hx with h | h
          · exact HNO.out x h
          · rw [show x = l[k] from by simpa using h]; exact hq
        clear HTK HAT HG hq
        generalize l[k] = r at *
        simp only [exc, List.getElem?_cons_zero, List.getElem?_cons_succ, Nat.add_zero] at c0 c1 c2 c3 c4 c5 c6 c7 c8
        go_wp2_with fail
        rw [HEG.out]
        simp only [Oper.upon]
        refine HC.out.mono ?_
        rintro e w1 ⟨rfl, l1⟩
        have L1 := lr.trans l1
        clear c0 c1 c2 c3 c4 c5 c6 c7 c8
        go_wp2_with fail
        go_roundw
        case rel => exact ⟨k + 1, by omega, by go_num, HF.out, L1⟩
        case measure => simp [intOf]; omega
    · obtain rfl : k = l.length := by omega
      have HF : Hid (ixP q l (.returned (.int .i64 (-1)))) := .inr ⟨rfl, fun x hx => HNO.out x (by rw [List.take_length]; exact hx)⟩
      go_wp2_with fail
      go_ret
      exact ⟨HF.out, lr⟩
end Go.Proofs.Ytbimdhapkbdmjaa
