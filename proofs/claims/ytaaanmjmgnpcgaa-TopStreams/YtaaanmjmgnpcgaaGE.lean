/- Package seqadj: Add. -/
import Derived.Test.YtaaanmjmgnpcgaaGD
import Derived.Test.YtaaanmjmgnpcgaaCA
import Derived.Deep.AppendLies
namespace Go.Proofs.Ytaaanmjmgnpcgaa
open Go.RowKit Go.Shelf
set_option maxRecDepth 100000
set_option linter.unusedVariables false
set_option linter.unusedSimpArgs false

/-- One more behind one's own. -/
theorem app1P (W : World) (ty : TypeId) (base : Nat) (v : Value) (xs : List Pa) (x : Pa) (hown : W.ownsRow base 65 5 v xs.length (pas xs)) (hb : base ≤ W.heap.size) (hs : xs.length ≤ 5000) :
    ∃ g cap W', (Builtin.append_ #[55, 55] ty #[v, .slice (some ⟨W.heap.size, 0, none⟩) 1 1]).run Try.prog (W.alloc (.cells (pac x).toArray 65)) = .ok (.slice (some ⟨g, 0, none⟩) (xs.length + 1) cap) W' ∧ W'.ownsRow base 65 5 (.slice (some ⟨g, 0, none⟩) (xs.length + 1) cap) (xs ++ [x]).length (pas (xs ++ [x])) ∧ But (fun b => v.ownBlock = some b) W W' ∧ (v.ownBlock = some g ∨ W.heap.size ≤ g) ∧ (W.alloc (.cells (pac x).toArray 65)).grownBy W' v.ownBlock := by
  have la : Later W (W.alloc (.cells (pac x).toArray 65)) := (Below.refl _ _).alloc (Nat.le_refl _) _
  have hn := heap_alloc_new W (.cells (pac x).toArray 65)
  have hI : RdP (W.heap.size + 1) (W.alloc (.cells (pac x).toArray 65)) (.slice (some ⟨W.heap.size, 0, none⟩) 1 1) [x] := .inr ⟨W.heap.size, 0, 1, rfl, by simp, by simp, by omega, by omega, fun j hj i hi => by
    obtain rfl : j = 0 := by simpa using hj
    rw [show 0 + 0 * 5 + i = i from by omega, block_cell hn i]
    simp⟩
  obtain ⟨v', w', h1, h2, h3, h4⟩ := appP (W.alloc (.cells (pac x).toArray 65)) ty base (W.heap.size + 1) v xs _ [x] (ownP_later hown la) hI (by have := la.size; omega) (by simp; omega)
  have h2' := h2
  rw [show (xs ++ [x]).length = xs.length + 1 from by simp] at h2'
  obtain ⟨g, cap, rfl⟩ := ownsRow_succ h2'
  refine ⟨g, cap, w', h1, h2, (But.of la).trans ⟨h3.os, h3.tape, h3.output, h3.size, fun k hk he => h3.block k hk (fun e => he e.symm)⟩, ?_, h3⟩
  rcases h4 with h4 | h4
  · exact .inl h4.symm
  · right
    simp [Value.ownBlock] at h4
    omega
theorem ownP_but {E : Nat → Prop} {base : Nat} {A B : World} {v : Value} {n : Nat} {xs : List Value} (h : A.ownsRow base 65 5 v n xs) (k : But E A B) (hE : ∀ g, v.ownBlock = some g → ¬ E g) : B.ownsRow base 65 5 v n xs := by
  obtain ⟨h1, h2 | ⟨g, cap, cur, hv, hg, hh, r⟩⟩ := h
  · exact ⟨h1, .inl h2⟩
  · exact ⟨h1, .inr ⟨g, cap, cur, hv, hg, (k.block g (Array.getElem?_eq_some_iff.1 hh).1 (hE g (by rw [hv]; rfl))).trans hh, r⟩⟩

/-- What Add tells. -/
def adS (l : List Pa) (s was tl : Int) : Int := if okN was = false then 2 else if okN tl = false then 2 else if pssd l s = true then 2 else if 8 ≤ l.length then 9 else 0
/-- The part that it adds. -/
def npP (l : List Pa) (s was : Int) (tl : Nat) (ta : Option Addr) (tc : Nat) : Pa := ⟨s, (s + was) % 4294967296, (s + shf l) % 4294967296, (s + shf l + (tl : Int)) % 4294967296, ta, tl, tc⟩
theorem shf_rng (l : List Pa) : 0 ≤ shf l ∧ shf l ≤ 4294967295 := by unfold shf; split <;> omega

set_option maxHeartbeats 8000000 in
theorem sadd_no (base b : Nat) (v : Value) (l : List Pa) (s was : Int) (tv : Value) (zs : List Int) (w : World) (hT : SL 57 base w b v l) (hl : l.length ≤ 1000) (hI : Rd w.heap.size w tv zs) (ha : adS l s was zs.length ≠ 0) :
    Calls Try.prog 13 #[.pointer (some ⟨b, 0, none⟩), .int .u32 s, .int .i64 was, tv] w fun e w' => e = .returned (.int .i64 (adS l s was zs.length)) ∧ w' = w := by
  obtain ⟨at0, ct0, rfl, _, _⟩ := hI.slice
  have k0 := block_cell hT.2.1
  obtain ⟨av, cv, rfl, _, _⟩ := (ownP_rd hT.2.2).slice
  have HMB := hide (fun n => mayBe_any n w)
  have HPS := hide (passed_any base b _ l s w hT hl)
  have hli : (l.length : Int) ≤ 1000 := by omega
  unfold adS at *
  clear hT hI
  go_enter Try.func13, Try.ntmps13
  cases h1 : okN was with
  | false =>
    go_wp2_with fail
    refine (HMB.out was).mono ?_
    rw [h1]
    rintro e w1 ⟨rfl, rfl⟩
    go_wp2_with fail
    go_ret
    exact ⟨by simp [h1], rfl⟩
  | true =>
    go_wp2_with fail
    refine (HMB.out was).mono ?_
    rw [h1]
    rintro e w1 ⟨rfl, rfl⟩
    cases h2 : okN zs.length with
    | false =>
      go_wp2_with fail
      refine (HMB.out zs.length).mono ?_
      rw [h2]
      rintro e w1 ⟨rfl, rfl⟩
      go_wp2_with fail
      go_ret
      exact ⟨by simp [h1, h2], rfl⟩
    | true =>
      go_wp2_with fail
      refine (HMB.out zs.length).mono ?_
      rw [h2]
      rintro e w1 ⟨rfl, rfl⟩
      go_wp2_with fail
      refine HPS.out.mono ?_
      cases h3 : pssd l s with
      | true =>
        rintro e w1 ⟨rfl, rfl⟩
        go_wp2_with fail
        go_ret
        exact ⟨by simp [h1, h2, h3], rfl⟩
      | false =>
        rintro e w1 ⟨rfl, rfl⟩
        have h8 : 8 ≤ l.length := by
          by_cases h : 8 ≤ l.length
          · exact h
          · rw [h1, h2, h3] at ha
            simp [h] at ha
        have h8' : (8 : Int) ≤ l.length := by omega
        go_wp2_with fail
        go_ret
        exact ⟨by simp [h1, h2, h3, h8], rfl⟩
end Go.Proofs.Ytaaanmjmgnpcgaa
