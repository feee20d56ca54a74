/- The walk of SeqadjInside. -/
import Derived.Test.YtaaanmjmgnpcgaaGG
import Derived.Test.YtaaanmjmgnpcgaaRh
namespace Go.Proofs.Ytaaanmjmgnpcgaa
open Go.RowKit Go.Shelf
set_option maxRecDepth 100000
set_option linter.unusedVariables false
set_option linter.unusedSimpArgs false

section
variable {P : Program} {l : List Oper} {Q : Exit → Act → World → Prop} {fuel : Nat} {listed : Array Bool} {a : Act} {w : World} {R : World → World → Prop}
theorem anyR_oneG (i : Nat) {oi : Oper} (hi : nthOp l i = some oi) (hr : Region.ready .any l.toArray listed = [i]) (hg : Region.wanted oi (yielded l.toArray a.tmps) = true)
    (h1 : ∀ w', R w w' → oi.wp P a w' (fun a' w'' => R w' w'' ∧ wpAnyR P .any l.toArray Q R fuel (listed.setIfInBounds i true) a' w'') Q) :
    wpAnyR P .any l.toArray Q R (fuel + 1) listed a w := by
  have hi' : l.toArray[i]? = some oi := by rw [← hi, nthOp_eq]; simp
  refine ⟨fun h0 => (by rw [hr] at h0; cases h0), fun k hk w' hw' => ?_⟩
  rw [hr] at hk
  unfold wpOp
  obtain rfl : k = i := by simpa using hk
  rw [hi']; simp only [hg, if_true]; exact .inl (h1 w' hw')
end

theorem ahd_is {x y d : Int} (h : (x - y - d) % 4294967296 = 0) (h1 : -2147483648 ≤ d) (h2 : d < 2147483648) : ahd x y = d := by
  unfold ahd
  split <;> omega
theorem bhd_t {x y : Int} (d : Int) (h : (x - y - d) % 4294967296 = 0) (h1 : 0 < d) (h2 : d < 2147483648) : bhd x y = true := by unfold bhd; rw [ahd_is h (by omega) h2]; simpa using h1
theorem bhd_f {x y : Int} (d : Int) (h : (x - y - d) % 4294967296 = 0) (h1 : -2147483648 ≤ d) (h2 : d ≤ 0) : bhd x y = false := by unfold bhd; rw [ahd_is h h1 (by omega)]; simp; omega
/-- The one part. -/
def np1 (s was : Int) (tl : Nat) (ta : Option Addr) (tc : Nat) : Pa := ⟨s, (s + was) % 4294967296, s, (s + (tl : Int)) % 4294967296, ta, tl, tc⟩
theorem np_np1 (s was : Int) (tl : Nat) (ta : Option Addr) (tc : Nat) (h : 0 ≤ s ∧ s ≤ 4294967295) : npP [] s was tl ta tc = np1 s was tl ta tc := by
  unfold npP np1 shf
  simp
  omega
theorem in1 (s was k : Int) (tl : Nat) (ta : Option Addr) (tc : Nat) (hs : 0 ≤ s ∧ s ≤ 4294967295) (hw : 1 ≤ was ∧ was ≤ 128) (ht : 1 ≤ (tl : Int) ∧ (tl : Int) ≤ 128) (hk : 0 ≤ k ∧ k < was) : mapS [np1 s was tl ta tc] ((s + k) % 4294967296) = s := by
  unfold mapS np1
  simp only [List.reverse_cons, List.reverse_nil, List.nil_append, acr]
  rw [bhd_f (-k) (by omega) (by omega) (by omega), bhd_t (was - k) (by omega) (by omega) (by omega)]
  simp
theorem in2 (s was k : Int) (tl : Nat) (ta : Option Addr) (tc : Nat) (hs : 0 ≤ s ∧ s ≤ 4294967295) (hw : 1 ≤ was ∧ was ≤ 128) (ht : 1 ≤ (tl : Int) ∧ (tl : Int) ≤ 128) (hk : 0 ≤ k ∧ k < (tl : Int)) : unmS [np1 s was tl ta tc] ((s + k) % 4294967296) = s := by
  unfold unmS np1
  simp only [List.reverse_cons, List.reverse_nil, List.nil_append, acr]
  rw [bhd_f (-k) (by omega) (by omega) (by omega), bhd_t ((tl : Int) - k) (by omega) (by omega) (by omega)]
  simp
theorem in3 (s was : Int) (tl : Nat) (ta : Option Addr) (tc : Nat) (hs : 0 ≤ s ∧ s ≤ 4294967295) (hw : 1 ≤ was ∧ was ≤ 128) (ht : 1 ≤ (tl : Int) ∧ (tl : Int) ≤ 128) : mapS [np1 s was tl ta tc] ((s + was) % 4294967296) = (s + (tl : Int)) % 4294967296 := by
  unfold mapS np1
  simp only [List.reverse_cons, List.reverse_nil, List.nil_append, acr]
  rw [bhd_f (-was) (by omega) (by omega) (by omega), bhd_f 0 (by omega) (by omega) (by omega)]
  simp
  omega
theorem in4 (s was : Int) (tl : Nat) (ta : Option Addr) (tc : Nat) (hs : 0 ≤ s ∧ s ≤ 4294967295) : mapS [np1 s was tl ta tc] ((s - 1) % 4294967296) = (s - 1) % 4294967296 := by
  unfold mapS np1
  simp only [List.reverse_cons, List.reverse_nil, List.nil_append, acr]
  rw [bhd_t 1 (by omega) (by omega) (by omega)]
  simp
theorem in5 (s was : Int) (tl : Nat) (ta : Option Addr) (tc : Nat) (hs : 0 ≤ s ∧ s ≤ 4294967295) (hw : 1 ≤ was ∧ was ≤ 128) (ht : 1 ≤ (tl : Int) ∧ (tl : Int) ≤ 128) : mapS [np1 s was tl ta tc] ((s + 9000) % 4294967296) = (s + 9000 + ((tl : Int) - was)) % 4294967296 := by
  unfold mapS np1
  simp only [List.reverse_cons, List.reverse_nil, List.nil_append, acr]
  rw [bhd_f (-9000) (by omega) (by omega) (by omega), bhd_f (was - 9000) (by omega) (by omega) (by omega)]
  simp
  omega

end Go.Proofs.Ytaaanmjmgnpcgaa