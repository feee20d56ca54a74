/- Package written: digits, numbers as text has them. -/
import Derived.Test.YtibjgaelaijgpaaGreatDoorRh
import Derived.Test.YtibjgaelaijgpaaGreatDoorW8
import Derived.Laws.RangeAny
namespace Go.Proofs.YtibjgaelaijgpaaGreatDoor
open Go.RowKit Go.Shelf
set_option maxRecDepth 100000
set_option linter.unusedVariables false
set_option linter.unusedSimpArgs false

/-- A digit. -/
def dgt (c : Int) : Bool := decide (48 ≤ c) && decide (c ≤ 57)
theorem isDigit_any (c : Int) (w : World) : Calls Tryz.prog 57 #[.int .i32 c] w fun e w' => e = .returned (.bool (dgt c)) ∧ w' = w := by
  unfold dgt
  go_enter Tryz.func57, Tryz.ntmps57
  by_cases h : 48 ≤ c
  · go_wp2_with fail
    go_ret
    exact ⟨by simp [h], rfl⟩
  · go_wp2_with fail
    go_ret
    exact ⟨by first | (simp [h]; done) | (simp [h]; omega), rfl⟩
/-- The byte at a place, as a number. -/
def bAt (s : ByteArray) (i : Nat) : Int := ((s.get! i).toNat : Int)
theorem decode_dgt (s : ByteArray) (pos : Nat) (h : pos < s.size) : dgt ((Utf8.decode s pos).1 : Int) = dgt (bAt s pos) ∧ (dgt (bAt s pos) = true → Utf8.decode s pos = ((s.get! pos).toNat, 1)) := by
  have e : s[pos]'h = s.get! pos := by simp [ByteArray.get!, getElem!_pos, h]; rfl
  by_cases ha : (s[pos]'h).toNat < 128
  · have hd := decode_ascii s pos h ha
    rw [e] at hd
    rw [hd]
    exact ⟨rfl, fun _ => rfl⟩
  · rw [e] at ha
    have h1 : dgt (bAt s pos) = false := by unfold dgt bAt; simp; omega
    have h2 : 128 ≤ (Utf8.decode s pos).1 := by
      have hb : ∀ k, (s.get! (pos + k)).toNat < 256 := fun k => (s.get! (pos + k)).toNat_lt
      have h0 := hb 0; have h1 := hb 1; have h2 := hb 2; have h3 := hb 3
      simp only [Utf8.decode]
      repeat' split
      all_goals simp_all [Utf8.runeError]
      all_goals omega
    refine ⟨?_, fun h => by rw [h1] at h; cases h⟩
    rw [h1]
    unfold dgt
    simp
    omega
/-- What digits tell. -/
def numP (s : ByteArray) (most : Int) : Nat → Nat → Int → Option Int
  | 0, _, n => some n
  | k + 1, pos, n => if dgt (bAt s pos) = false then none else if 0 < pos ∧ n = 0 then none else if most < n * 10 + (bAt s pos - 48) then none else numP s most k (pos + 1) (n * 10 + (bAt s pos - 48))
def numV (s : ByteArray) (most : Int) : Option Int := if s.size = 0 then none else numP s most s.size 0 0
end Go.Proofs.YtibjgaelaijgpaaGreatDoor
