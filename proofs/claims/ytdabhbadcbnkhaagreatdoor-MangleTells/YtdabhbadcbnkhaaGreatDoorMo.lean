/- Options of a segment: the mathematics of their bytes. -/
import Derived.Test.YtdabhbadcbnkhaaGreatDoorSB
namespace Go.Proofs.YtdabhbadcbnkhaaGreatDoor
set_option maxRecDepth 100000
set_option linter.unusedVariables false
set_option linter.unusedSimpArgs false

/-- An option: its kind and its data. -/
abbrev Opt := Int × List Int
def ob1 (o : Opt) : List Int := if o.1 = 1 then [1] else o.1 :: (2 + (o.2.length : Int)) :: o.2
def okO (o : Opt) : Prop := o.1 ≠ 0 ∧ (o.1 = 1 → o.2 = [])
instance (o : Opt) : Decidable (okO o) := by unfold okO; exact inferInstance
def obs (os : List Opt) : List Int := os.flatMap ob1
def obOk (os : List Opt) : Prop := (∀ o ∈ os, okO o) ∧ (obs os).length ≤ 40
instance (os : List Opt) : Decidable (obOk os) := by unfold obOk; exact inferInstance
/-- Bytes as options; none: they are wrong. -/
def po : Nat → List Int → Option (List Opt)
  | 0, _ => none
  | _ + 1, [] => some []
  | n + 1, k :: r =>
    if k = 0 then (if ∀ x ∈ r, x = 0 then some [] else none)
    else if k = 1 then (po n r).map ((1, []) :: ·)
    else match r with
      | [] => none
      | s :: r' => if s < 2 ∨ (r'.length : Int) + 2 < s then none else (po n (r'.drop (s.toNat - 2))).map ((k, r'.take (s.toNat - 2)) :: ·)
theorem po_fuel : ∀ (n m : Nat) (l : List Int), l.length < n → l.length < m → po n l = po m l
  | 0, _, _, h, _ => by omega
  | _ + 1, 0, _, _, h => by omega
  | n + 1, m + 1, [], _, _ => rfl
  | n + 1, m + 1, k :: r, h, h' => by
    simp at h h'
    unfold po
    split
    · rfl
    split
    · rw [po_fuel n m r (by omega) (by omega)]
    cases r with
    | nil => rfl
    | cons s r' =>
      dsimp only
      split
      · rfl
      · rw [po_fuel n m (r'.drop (s.toNat - 2)) (by simp at h ⊢; omega) (by simp at h' ⊢; omega)]
def opts (zs : List Int) : Option (List Opt) := po (zs.length + 1) zs
theorem opts_nil : opts [] = some [] := rfl
theorem opts_zero (r : List Int) : opts (0 :: r) = if ∀ x ∈ r, x = 0 then some [] else none := by unfold opts po; rw [if_pos rfl]
theorem opts_one (r : List Int) : opts (1 :: r) = (opts r).map ((1, []) :: ·) := by
  show po ((r.length + 1) + 1) (1 :: r) = _
  unfold opts
  conv => lhs; unfold po
  rw [if_neg (by decide), if_pos rfl]
theorem opts_bare (k : Int) (h0 : k ≠ 0) (h1 : k ≠ 1) : opts [k] = none := by unfold opts po; rw [if_neg h0, if_neg h1]
theorem opts_wrong (k s : Int) (r : List Int) (h0 : k ≠ 0) (h1 : k ≠ 1) (h : s < 2 ∨ (r.length : Int) + 2 < s) : opts (k :: s :: r) = none := by
  unfold opts po; rw [if_neg h0, if_neg h1]; simp only; rw [if_pos h]
theorem opts_more (k s : Int) (r : List Int) (h0 : k ≠ 0) (h1 : k ≠ 1) (h : 2 ≤ s) (h' : s ≤ (r.length : Int) + 2) : opts (k :: s :: r) = (opts (r.drop (s.toNat - 2))).map ((k, r.take (s.toNat - 2)) :: ·) := by
  show po ((k :: s :: r).length + 1) (k :: s :: r) = _
  unfold opts
  conv => lhs; unfold po
  rw [if_neg h0, if_neg h1]
  simp only
  rw [if_neg (by omega), po_fuel _ ((r.drop (s.toNat - 2)).length + 1) (r.drop (s.toNat - 2)) (by simp; omega) (by omega)]

end Go.Proofs.YtdabhbadcbnkhaaGreatDoor
