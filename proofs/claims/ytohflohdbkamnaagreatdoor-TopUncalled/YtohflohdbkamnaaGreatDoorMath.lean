/- Plain mathematics of check sums, over lists of integers: no program, no condition beside those named. -/
namespace Go.Proofs.YtohflohdbkamnaaGreatDoor.Mt
set_option maxRecDepth 100000

/-- Bytes weighed by turns 256 and 1: the sum of their words. -/
def tw : Bool → List Int → Int
  | _, [] => 0
  | true, a :: r => a * 256 + tw false r
  | false, a :: r => a + tw true r

/-- What is above 16 bits added again, till there is none. -/
def fd (n : Int) : Int := if n ≤ 0 then 0 else (n - 1) % 65535 + 1

/-- The check sum. -/
def cks (zs : List Int) : Int := 65535 - fd (tw true zs)

/-- All are bytes. -/
def By (zs : List Int) : Prop := ∀ z ∈ zs, 0 ≤ z ∧ z ≤ 255

theorem By.nil : By [] := fun _ h => by cases h
theorem By.cons {a : Int} {r : List Int} (h : By (a :: r)) : (0 ≤ a ∧ a ≤ 255) ∧ By r := ⟨h a (by simp), fun z hz => h z (by simp [hz])⟩
theorem By.mk {a : Int} {r : List Int} (ha : 0 ≤ a ∧ a ≤ 255) (h : By r) : By (a :: r) := fun z hz => by
  rcases List.mem_cons.1 hz with rfl | hz
  · exact ha
  · exact h z hz
theorem By.append {a b : List Int} (ha : By a) (hb : By b) : By (a ++ b) := fun z hz => (List.mem_append.1 hz).elim (ha z) (hb z)
theorem By.take {a : List Int} (ha : By a) (k : Nat) : By (a.take k) := fun z hz => ha z (List.mem_of_mem_take hz)
theorem By.drop {a : List Int} (ha : By a) (k : Nat) : By (a.drop k) := fun z hz => ha z (List.mem_of_mem_drop hz)
theorem By.set {a : List Int} (ha : By a) (k : Nat) {v : Int} (hv : 0 ≤ v ∧ v ≤ 255) : By (a.set k v) := fun z hz => by
  rcases List.mem_or_eq_of_mem_set hz with h | rfl
  · exact ha z h
  · exact hv
theorem By.at {a : List Int} (ha : By a) (k : Nat) : 0 ≤ a[k]?.getD 0 ∧ a[k]?.getD 0 ≤ 255 := by
  by_cases h : k < a.length
  · have := ha a[k] (List.getElem_mem h)
    simpa [h] using this
  · simp [h]

theorem fd_bd (n : Int) : 0 ≤ fd n ∧ fd n ≤ 65535 := by unfold fd; split <;> omega
theorem fd_low (n : Int) (h0 : 0 ≤ n) (h : n ≤ 65535) : fd n = n := by unfold fd; split <;> omega
theorem fd_step (n : Int) (h0 : 0 ≤ n) : fd (n / 65536 + n % 65536) = fd n := by unfold fd; split <;> split <;> omega
/-- Whose turn it is behind so many. -/
def turn (h : Bool) (n : Nat) : Bool := if n % 2 = 0 then h else !h
theorem turn_succ (h : Bool) (n : Nat) : turn (!h) n = turn h (n + 1) := by
  unfold turn
  by_cases h1 : n % 2 = 0
  · rw [if_pos h1, if_neg (by omega)]
  · rw [if_neg h1, if_pos (by omega), Bool.not_not]
theorem tw_append : ∀ (h : Bool) (a b : List Int), tw h (a ++ b) = tw h a + tw (turn h a.length) b
  | h, [], b => by simp [tw, turn]
  | true, x :: r, b => by
    have := tw_append false r b
    rw [show false = !true from rfl, turn_succ] at this
    simp only [List.cons_append, tw, List.length_cons]
    rw [← show (!true) = false from rfl] at *
    omega
  | false, x :: r, b => by
    have := tw_append true r b
    rw [show true = !false from rfl, turn_succ] at this
    simp only [List.cons_append, tw, List.length_cons]
    rw [← show (!false) = true from rfl] at *
    omega
theorem take_two (zs : List Int) (k : Nat) (h : k + 1 < zs.length) : zs.take (k + 2) = zs.take k ++ [zs[k]?.getD 0, zs[k + 1]?.getD 0] := by
  rw [List.take_succ_eq_append_getElem (i := k + 1) (by omega), List.take_succ_eq_append_getElem (i := k) (by omega), List.append_assoc]
  simp [show k < zs.length by omega, h]
theorem take_one (zs : List Int) (k : Nat) (h : k < zs.length) : zs.take (k + 1) = zs.take k ++ [zs[k]?.getD 0] := by
  rw [List.take_succ_eq_append_getElem (by omega)]
  simp [h]
/-- The sum of the first words, and one more. -/
theorem tw_two (zs : List Int) (k : Nat) (he : k % 2 = 0) (h : k + 1 < zs.length) : tw true (zs.take (k + 2)) = tw true (zs.take k) + (zs[k]?.getD 0 * 256 + zs[k + 1]?.getD 0) := by
  rw [take_two zs k h, tw_append]
  have : (zs.take k).length = k := by simp; omega
  rw [this]
  simp [turn, he, tw]
theorem tw_one (zs : List Int) (k : Nat) (he : k % 2 = 0) (h : k < zs.length) : tw true (zs.take (k + 1)) = tw true (zs.take k) + zs[k]?.getD 0 * 256 := by
  rw [take_one zs k h, tw_append]
  have : (zs.take k).length = k := by simp; omega
  rw [this]
  simp [turn, he, tw]

/-- Two bytes changed. -/
def put2 (zs : List Int) (k : Nat) (v : Int) : List Int := (zs.set k (v / 256)).set (k + 1) (v % 256)
theorem put2_length (zs : List Int) (k : Nat) (v : Int) : (put2 zs k v).length = zs.length := by simp [put2]
theorem By.put2 {zs : List Int} (h : By zs) (k : Nat) {v : Int} (hv : 0 ≤ v ∧ v ≤ 65535) : By (put2 zs k v) := (h.set k (by omega)).set (k + 1) (by omega)
end Go.Proofs.YtohflohdbkamnaaGreatDoor.Mt
