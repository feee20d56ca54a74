/- Options of a segment: the mathematics of their bytes. -/
import Derived.Test.YtdabhbadcbnkhaaDoorSB
namespace Go.Proofs.YtdabhbadcbnkhaaDoor
set_option maxRecDepth 100000
set_option linter.unusedVariables false
set_option linter.unusedSimpArgs false

/-- An option: its kind and its data. -/
abbrev Opt := Int × List Int
def ByO (os : List Opt) : Prop := ∀ o ∈ os, (0 ≤ o.1 ∧ o.1 ≤ 255) ∧ Mt.By o.2
def ob1 (o : Opt) : List Int := if o.1 = 1 then [1] else o.1 :: (2 + (o.2.length : Int)) :: o.2
def okO (o : Opt) : Prop := o.1 ≠ 0 ∧ (o.1 = 1 → o.2 = [])
instance (o : Opt) : Decidable (okO o) := by unfold okO; exact inferInstance
def osz (o : Opt) : Nat := if o.1 = 1 then 1 else 2 + o.2.length
theorem ob1_length (o : Opt) : (ob1 o).length = osz o := by unfold ob1 osz; split <;> simp; omega
def obs (os : List Opt) : List Int := os.flatMap ob1
theorem obs_nil : obs [] = [] := rfl
theorem obs_cons (o : Opt) (r : List Opt) : obs (o :: r) = ob1 o ++ obs r := by simp [obs]
theorem obs_snoc (l : List Opt) (o : Opt) : obs (l ++ [o]) = obs l ++ ob1 o := by simp [obs]
theorem obs_app (l r : List Opt) : obs (l ++ r) = obs l ++ obs r := by simp [obs]
def obOk (os : List Opt) : Prop := (∀ o ∈ os, okO o) ∧ (obs os).length ≤ 40
instance (os : List Opt) : Decidable (obOk os) := by unfold obOk; exact inferInstance
theorem osz_pos (o : Opt) : 1 ≤ osz o := by unfold osz; split <;> omega
theorem obOk_nil : obOk [] := by constructor <;> simp [obs]

/-- Filled up to whole words. -/
def padn (n : Nat) : Nat := (4 - n % 4) % 4
def pad (l : List Int) : List Int := l ++ List.replicate (padn l.length) 0
theorem pad_length (l : List Int) : (pad l).length = l.length + padn l.length := by simp [pad]
theorem pad_mod (l : List Int) : (pad l).length % 4 = 0 := by rw [pad_length]; unfold padn; omega
theorem pad_le (l : List Int) (h : l.length ≤ 40) : (pad l).length ≤ 40 := by rw [pad_length]; unfold padn; omega
theorem By_rep (n : Nat) : Mt.By (List.replicate n 0) := by
  induction n with
  | zero => exact Mt.By.nil
  | succ n ih => rw [List.replicate_succ]; exact .mk (by omega) ih
theorem By_ob1 (o : Opt) (h : (0 ≤ o.1 ∧ o.1 ≤ 255) ∧ Mt.By o.2) (hl : osz o ≤ 40) : Mt.By (ob1 o) := by
  unfold osz at hl
  unfold ob1
  split
  · exact .mk (by omega) .nil
  · rw [if_neg (by assumption)] at hl
    exact .mk h.1 (.mk (by omega) h.2)
theorem By_obs : ∀ os : List Opt, ByO os → (obs os).length ≤ 40 → Mt.By (obs os)
  | [], _, _ => Mt.By.nil
  | o :: r, h, hl => by
    rw [obs_cons] at hl ⊢
    rw [List.length_append, ob1_length] at hl
    exact (By_ob1 o (h o (by simp)) (by omega)).append (By_obs r (fun x hx => h x (by simp [hx])) (by omega))
theorem By_pad (l : List Int) (h : Mt.By l) : Mt.By (pad l) := h.append (By_rep _)

/-- Bytes as options; none: they are wrong. -/
def po : Nat → List Int → Option (List Opt)
  | 0, _ => none
  | _ + 1, [] => some []
  | n + 1, k :: r =>
    if k = 0 then (if ∀ x ∈ r, x = 0 then some [] else none)
    else if k = 1 then (po n r).map ((1, []) :: ·)
    else match r with
      | [] => none
      | s :: r' => if s < 2 ∨ (r'.length : Int) + 2 < s then none else (po n (r'.drop (s.toNat - 2))).map ((k, r'.take (s.toNat - 2)) :: ·)
theorem po_fuel : ∀ (n m : Nat) (l : List Int), l.length < n → l.length < m → po n l = po m l
  | 0, _, _, h, _ => by omega
  | _ + 1, 0, _, _, h => by omega
  | n + 1, m + 1, [], _, _ => rfl
  | n + 1, m + 1, k :: r, h, h' => by
    simp at h h'
    unfold po
    split
    · rfl
    split
    · rw [po_fuel n m r (by omega) (by omega)]
    cases r with
    | nil => rfl
    | cons s r' =>
      dsimp only
      split
      · rfl
      · rw [po_fuel n m (r'.drop (s.toNat - 2)) (by simp at h ⊢; omega) (by simp at h' ⊢; omega)]
def opts (zs : List Int) : Option (List Opt) := po (zs.length + 1) zs
theorem opts_nil : opts [] = some [] := rfl
theorem opts_zero (r : List Int) : opts (0 :: r) = if ∀ x ∈ r, x = 0 then some [] else none := by unfold opts po; rw [if_pos rfl]
theorem opts_one (r : List Int) : opts (1 :: r) = (opts r).map ((1, []) :: ·) := by
  show po ((r.length + 1) + 1) (1 :: r) = _
  unfold opts
  conv => lhs; unfold po
  rw [if_neg (by decide), if_pos rfl]
theorem opts_bare (k : Int) (h0 : k ≠ 0) (h1 : k ≠ 1) : opts [k] = none := by unfold opts po; rw [if_neg h0, if_neg h1]
theorem opts_wrong (k s : Int) (r : List Int) (h0 : k ≠ 0) (h1 : k ≠ 1) (h : s < 2 ∨ (r.length : Int) + 2 < s) : opts (k :: s :: r) = none := by
  unfold opts po; rw [if_neg h0, if_neg h1]; simp only; rw [if_pos h]
theorem opts_more (k s : Int) (r : List Int) (h0 : k ≠ 0) (h1 : k ≠ 1) (h : 2 ≤ s) (h' : s ≤ (r.length : Int) + 2) : opts (k :: s :: r) = (opts (r.drop (s.toNat - 2))).map ((k, r.take (s.toNat - 2)) :: ·) := by
  show po ((k :: s :: r).length + 1) (k :: s :: r) = _
  unfold opts
  conv => lhs; unfold po
  rw [if_neg h0, if_neg h1]
  simp only
  rw [if_neg (by omega), po_fuel _ ((r.drop (s.toNat - 2)).length + 1) (r.drop (s.toNat - 2)) (by simp; omega) (by omega)]

theorem opts_rep (n : Nat) : opts (List.replicate n 0) = some [] := by
  cases n with
  | zero => rfl
  | succ n => rw [List.replicate_succ, opts_zero, if_pos (fun x hx => (List.mem_replicate.1 hx).2)]
theorem opts_obs (m : Nat) : ∀ os : List Opt, (∀ o ∈ os, okO o) → opts (obs os ++ List.replicate m 0) = some os
  | [], _ => by rw [obs_nil, List.nil_append]; exact opts_rep m
  | o :: r, h => by
    have ih := opts_obs m r (fun x hx => h x (by simp [hx]))
    obtain ⟨k, d⟩ := o
    have ho := h (k, d) (by simp)
    unfold okO at ho
    dsimp only at ho
    rw [obs_cons, List.append_assoc]
    unfold ob1
    dsimp only
    split
    · rename_i hk
      subst hk
      rw [List.cons_append, List.nil_append, opts_one, ih, ho.2 rfl]
      rfl
    · rename_i hk
      simp only [List.cons_append]
      rw [opts_more k _ _ ho.1 hk (by omega) (by simp; omega)]
      rw [show (2 + (d.length : Int)).toNat - 2 = d.length from by omega, List.drop_left, List.take_left, ih]
      rfl
theorem opts_pad (os : List Opt) (h : obOk os) : opts (pad (obs os)) = some os := opts_obs _ os h.1

/-- What is read has no more bytes than there were. -/
theorem opts_by : ∀ (n : Nat) (zs : List Int) (os : List Opt), zs.length ≤ n → Mt.By zs → opts zs = some os → ByO os
  | 0, zs, os, h, _, e => by
    obtain rfl : zs = [] := by cases zs <;> simp_all
    rw [opts_nil] at e
    cases e
    intro o ho
    cases ho
  | n + 1, [], os, _, _, e => by
    rw [opts_nil] at e
    cases e
    intro o ho
    cases ho
  | n + 1, k :: r, os, h, hB, e => by
    obtain ⟨hk, hBr⟩ := hB.cons
    by_cases h0 : k = 0
    · subst h0
      rw [opts_zero] at e
      split at e
      · cases e
        intro o ho
        cases ho
      · cases e
    by_cases h1 : k = 1
    · subst h1
      rw [opts_one] at e
      cases hr : opts r with
      | none => rw [hr] at e; cases e
      | some l =>
        rw [hr] at e
        cases e
        intro o ho
        rcases List.mem_cons.1 ho with rfl | ho
        · exact ⟨by simp, Mt.By.nil⟩
        · exact opts_by n r l (by simp at h; omega) hBr hr o ho
    cases r with
    | nil => rw [opts_bare k h0 h1] at e; cases e
    | cons s r =>
      by_cases hs : s < 2 ∨ (r.length : Int) + 2 < s
      · rw [opts_wrong k s r h0 h1 hs] at e
        cases e
      · rw [opts_more k s r h0 h1 (by omega) (by omega)] at e
        cases hr : opts (r.drop (s.toNat - 2)) with
        | none => rw [hr] at e; cases e
        | some l =>
          rw [hr] at e
          cases e
          intro o ho
          rcases List.mem_cons.1 ho with rfl | ho
          · exact ⟨hk, hBr.cons.2.take _⟩
          · exact opts_by n _ l (by simp at h ⊢; omega) (hBr.cons.2.drop _) hr o ho
end Go.Proofs.YtdabhbadcbnkhaaDoor
