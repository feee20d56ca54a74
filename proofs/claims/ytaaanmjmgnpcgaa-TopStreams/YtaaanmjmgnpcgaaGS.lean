/- The document's stream: Add, where it adds, in one. -/
import Derived.Test.YtaaanmjmgnpcgaaGQ
import Derived.Test.YtaaanmjmgnpcgaaGR
namespace Go.Proofs.Ytaaanmjmgnpcgaa
open Go.RowKit Go.Shelf
set_option maxRecDepth 100000
set_option linter.unusedVariables false
set_option linter.unusedSimpArgs false

theorem rsadd_yes (base b : Nat) (v : Value) (l : List Dp) (s was : Int) (tv : Value) (zs : List Int) (w : World) (hT : DS 71 base w b v l) (hbs : base ≤ w.heap.size) (hI : Rd w.heap.size w tv zs) (ha : adD l s was zs.length = 0) :
    Calls Try.prog 25 #[.pointer (some ⟨b, 0, none⟩), .int .u32 s, .int .i64 was, tv] w fun e w' => e = .returned (.int .i64 0) ∧ ∃ ta tc, DSq 71 base w w' b v (l ++ [⟨s, was, ta, zs.length, tc⟩]) ∧ Ow base w' (.slice ta zs.length tc) zs := by
  rcases (show l = [] ∨ 0 < l.length by cases l <;> simp) with h | h
  · exact rsadd_yes0 base b v l s was tv zs w hT hbs hI h ha
  · exact rsadd_yes1 base b v l s was tv zs w hT hbs hI h ha
end Go.Proofs.Ytaaanmjmgnpcgaa
