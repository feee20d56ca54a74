/- Plain mathematics of check sums, over lists of integers: no program, no condition beside those named. -/
namespace Go.Proofs.YtibjgaelaijgpaaGreatDoor.Mt
set_option maxRecDepth 100000

/-- Bytes weighed by turns 256 and 1: the sum of their words. -/
def tw : Bool → List Int → Int
  | _, [] => 0
  | true, a :: r => a * 256 + tw false r
  | false, a :: r => a + tw true r

/-- What is above 16 bits added again, till there is none. -/
def fd (n : Int) : Int := if n ≤ 0 then 0 else (n - 1) % 65535 + 1

/-- The check sum. -/
def cks (zs : List Int) : Int := 65535 - fd (tw true zs)

/-- All are bytes. -/
def By (zs : List Int) : Prop := ∀ z ∈ zs, 0 ≤ z ∧ z ≤ 255

theorem By.nil : By [] := fun _ h => by cases h
theorem By.cons {a : Int} {r : List Int} (h : By (a :: r)) : (0 ≤ a ∧ a ≤ 255) ∧ By r := ⟨h a (by simp), fun z hz => h z (by simp [hz])⟩
theorem By.mk {a : Int} {r : List Int} (ha : 0 ≤ a ∧ a ≤ 255) (h : By r) : By (a :: r) := fun z hz => by
  rcases List.mem_cons.1 hz with rfl | hz
  · exact ha
  · exact h z hz
theorem By.append {a b : List Int} (ha : By a) (hb : By b) : By (a ++ b) := fun z hz => (List.mem_append.1 hz).elim (ha z) (hb z)
theorem By.take {a : List Int} (ha : By a) (k : Nat) : By (a.take k) := fun z hz => ha z (List.mem_of_mem_take hz)
theorem By.drop {a : List Int} (ha : By a) (k : Nat) : By (a.drop k) := fun z hz => ha z (List.mem_of_mem_drop hz)
theorem By.set {a : List Int} (ha : By a) (k : Nat) {v : Int} (hv : 0 ≤ v ∧ v ≤ 255) : By (a.set k v) := fun z hz => by
  rcases List.mem_or_eq_of_mem_set hz with h | rfl
  · exact ha z h
  · exact hv
theorem By.at {a : List Int} (ha : By a) (k : Nat) : 0 ≤ a[k]?.getD 0 ∧ a[k]?.getD 0 ≤ 255 := by
  by_cases h : k < a.length
  · have := ha a[k] (List.getElem_mem h)
    simpa [h] using this
  · simp [h]

/-- Whose turn it is behind so many. -/
def turn (h : Bool) (n : Nat) : Bool := if n % 2 = 0 then h else !h
/-- Two bytes changed. -/
def put2 (zs : List Int) (k : Nat) (v : Int) : List Int := (zs.set k (v / 256)).set (k + 1) (v % 256)
theorem By.put2 {zs : List Int} (h : By zs) (k : Nat) {v : Int} (hv : 0 ≤ v ∧ v ≤ 65535) : By (put2 zs k v) := (h.set k (by omega)).set (k + 1) (by omega)
end Go.Proofs.YtibjgaelaijgpaaGreatDoor.Mt
