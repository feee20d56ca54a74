/- Package segs: which option tells edges. -/
import Derived.Test.YtclkfmdlgffbeaaSP
namespace Go.Proofs.Ytclkfmdlgffbeaa
open Go.RowKit Go.Shelf
set_option maxRecDepth 100000
set_option linter.unusedVariables false
set_option linter.unusedSimpArgs false

def telb (k : Int) (len : Nat) : Bool := decide (k = 5 ∧ len % 8 = 0 ∧ 1 ≤ len / 8 ∧ len / 8 ≤ 4)

set_option maxHeartbeats 2000000 in
theorem tells_any (k : Int) (a : Option Addr) (len cap : Nat) (w : World) (hl : len ≤ 140737488355328) :
    Calls Try.prog 44 #[.agg #[.int .u8 k, .slice a len cap]] w fun e w' => e = .returned (.bool (telb k len)) ∧ Below w.heap.size w w' := by
  have hbox : Below w.heap.size w (w.alloc (.cells #[.int .u8 k, .slice a len cap] 57)) := (Below.refl _ _).alloc (Nat.le_refl _) _
  by_cases h1 : k = 5
  · have t1 : (k == 5) = true := by simp [h1]
    by_cases h2 : len % 8 = 0
    · have t2 : ((len : Int) % 8 == 0) = true := by simp; omega
      by_cases h3 : (1 : Int) ≤ (len : Int) / 8
      · by_cases h4 : (len : Int) / 8 ≤ 4
        · have HR : Hid (telb k len = true) := by show _ = _; unfold telb; exact decide_eq_true ⟨h1, h2, by omega, by omega⟩
          clear h1 h2
          go_enter Try.func44, Try.ntmps44
          go_wp2
          go_ret
          exact ⟨by rw [HR.out]; rfl, hbox⟩
        · have HR : Hid (telb k len = false) := by show _ = _; unfold telb; exact decide_eq_false (fun h => by omega)
          clear h1 h2
          go_enter Try.func44, Try.ntmps44
          go_wp2
          go_ret
          exact ⟨by rw [HR.out]; rfl, hbox⟩
      · have HR : Hid (telb k len = false) := by show _ = _; unfold telb; exact decide_eq_false (fun h => by omega)
        clear h1 h2
        go_enter Try.func44, Try.ntmps44
        go_wp2
        go_ret
        exact ⟨by rw [HR.out]; rfl, hbox⟩
    · have t2 : ((len : Int) % 8 == 0) = false := by simp; omega
      have HR : Hid (telb k len = false) := by show _ = _; unfold telb; exact decide_eq_false (fun h => by omega)
      clear h1 h2
      go_enter Try.func44, Try.ntmps44
      go_wp2
      go_ret
      exact ⟨by rw [HR.out]; rfl, hbox⟩
  · have t1 : (k == 5) = false := by simp [h1]
    have HR : Hid (telb k len = false) := by show _ = _; unfold telb; exact decide_eq_false (fun h => h1 h.1)
    clear h1
    go_enter Try.func44, Try.ntmps44
    go_wp2
    go_ret
    exact ⟨by rw [HR.out]; rfl, hbox⟩

/-- The place of the option that tells edges. -/
def tlo (o : Opt) : Bool := telb o.1 o.2.length
def skx (os : List Opt) : Option Nat := os.findIdx? tlo
theorem skx_none {os : List Opt} (h : ∀ j, j < os.length → tlo (os[j]?.getD (0, [])) = false) : skx os = none := by
  unfold skx
  rw [List.findIdx?_eq_none_iff]
  intro o ho
  obtain ⟨j, hj, rfl⟩ := List.getElem_of_mem ho
  have := h j hj
  simpa [hj] using this
theorem skx_some {os : List Opt} {k : Nat} (hk : k < os.length) (h : ∀ j, j < k → tlo (os[j]?.getD (0, [])) = false) (ht : tlo (os[k]?.getD (0, [])) = true) : skx os = some k := by
  unfold skx
  rw [List.findIdx?_eq_some_iff_getElem]
  refine ⟨hk, by simpa [hk] using ht, fun j hj => ?_⟩
  have := h j hj
  simpa [show j < os.length from by omega] using this
theorem skx_lt {os : List Opt} {k : Nat} (h : skx os = some k) : k < os.length ∧ tlo (os[k]?.getD (0, [])) = true := by
  unfold skx at h
  rw [List.findIdx?_eq_some_iff_getElem] at h
  obtain ⟨hk, ht, _⟩ := h
  exact ⟨hk, by simpa [hk] using ht⟩

set_option maxHeartbeats 2000000 in
theorem idxo_any (n₀ : Nat) (sv : Value) (os : List Opt) (w : World) (hn : n₀ ≤ w.heap.size) (hI : RdO n₀ w sv os) (hl : ∀ o ∈ os, o.2.length ≤ 140737488355328) :
    Calls Try.prog 43 #[sv, .func (.func 44) #[] #[]] w fun e w' => Below w.heap.size w w' ∧ ((skx os = none ∧ e = .returned (.int .i64 (-1))) ∨ ∃ k : Nat, skx os = some k ∧ e = .returned (.int .i64 (k : Int))) := by
  obtain ⟨a, cap, rfl, hc1, hc2⟩ := hI.slice
  go_enter Try.func43, Try.ntmps43
  go_wp2
  go_loopw [8] (fun i wr => ∃ k : Nat, k ≤ os.length ∧ i = .int .i64 (k : Int) ∧ (∀ j, j < k → tlo (os[j]?.getD (0, [])) = false) ∧ Below w.heap.size w wr) (fun i _ => os.length - (intOf i).toNat)
  case atStart => exact ⟨0, by omega, rfl, fun j h => by omega, Below.refl _ _⟩
  case round =>
    obtain ⟨k, hk, rfl, hz, hbw⟩ := hrel
    have HZ := hide hz
    clear hz
    by_cases hlt : k < os.length
    · obtain ⟨b, off, cp, e, _, _, hbb, hcs⟩ := (hI.below (hbw.mono hn)).cells (by omega)
      simp at e
      obtain ⟨rfl, rfl⟩ := e
      obtain ⟨s, c0, c1, hRs⟩ := hcs k hlt
      obtain ⟨sa, sc, rfl, _, _⟩ := hRs.slice
      have hol := hl (os[k]?.getD (0, [])) (by simp [hlt])
      have HT : Hid (tlo (os[k]?.getD (0, [])) = telb (os[k]?.getD (0, [])).1 (os[k]?.getD (0, [])).2.length) := rfl
      have hlt' : (k : Int) < os.length := by omega
      clear hcs hRs
      generalize hgo : os[k]?.getD (0, []) = o at *
      have HGO := hide hgo
      clear hgo
      obtain ⟨kd, dt⟩ := o
      dsimp only at c0 c1 hol HT
      go_wp2_with fail
      refine (tells_any kd sa dt.length sc wr hol).mono ?_
      rintro e w' ⟨rfl, hb'⟩
      have hw' := hbw.trans (hb'.mono hbw.size)
      cases ht : telb kd dt.length with
      | true =>
        have HTT := hide (HT.out.trans ht)
        clear ht
        go_wp2_with fail
        go_ret
        exact ⟨hw', .inr ⟨k, skx_some hlt HZ.out (by rw [HGO.out]; exact HTT.out), rfl⟩⟩
      | false =>
        have HTT := hide (HT.out.trans ht)
        clear ht
        go_wp2_with fail
        go_roundw
        case rel => exact ⟨k + 1, by omega, by go_num, fun j hj => by by_cases h : j = k; (subst h; rw [HGO.out]; exact HTT.out); exact HZ.out j (by omega), hw'⟩
        case measure => simp [intOf]; omega
    · obtain rfl : k = os.length := by omega
      go_wp2_with fail
      go_ret
      exact ⟨hbw, .inl ⟨skx_none HZ.out, rfl⟩⟩
end Go.Proofs.Ytclkfmdlgffbeaa
