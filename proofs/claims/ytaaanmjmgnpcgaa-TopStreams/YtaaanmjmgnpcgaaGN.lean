/- Both streams hold the same parts: they map the same. -/
import Derived.Test.YtaaanmjmgnpcgaaGM
namespace Go.Proofs.Ytaaanmjmgnpcgaa
open Go.RowKit Go.Shelf
set_option maxRecDepth 100000
set_option linter.unusedVariables false
set_option linter.unusedSimpArgs false

/-- The program's parts and the document's, added one behind the other. -/
inductive RS : List Pa → List Dp → Prop
  | nil : RS [] []
  | add {lp : List Pa} {ld : List Dp} (h : RS lp ld) (s wz : Int) (n : Nat) (ta : Option Addr) (tc : Nat) (ta' : Option Addr) (tc' : Nat) (hs : 0 ≤ s ∧ s ≤ 4294967295) (hw : 1 ≤ wz ∧ wz ≤ 128) (hn : 1 ≤ (n : Int) ∧ (n : Int) ≤ 128) : RS (lp ++ [npP lp s wz n ta tc]) (ld ++ [⟨s, wz, ta', n, tc'⟩])
theorem dfz_pre (l : List Dp) (d : Dp) : ∀ k, k ≤ l.length → dfz (l ++ [d]) k = dfz l k
  | 0, _ => rfl
  | k + 1, h => by
    unfold dfz
    rw [dfz_pre l d k (by omega), List.getElem?_append_left (by omega)]
theorem dmp_pre (l : List Dp) (d : Dp) (n : Int) : ∀ k, k ≤ l.length → dmp (l ++ [d]) n k = dmp l n k
  | 0, _ => rfl
  | k + 1, h => by
    unfold dmp
    rw [dmp_pre l d n k (by omega), List.getElem?_append_left (by omega), dfz_pre l d k (by omega), dfz_pre l d (k + 1) h]
theorem dum_pre (l : List Dp) (d : Dp) (n : Int) : ∀ k, k ≤ l.length → dum (l ++ [d]) n k = dum l n k
  | 0, _ => rfl
  | k + 1, h => by
    unfold dum
    rw [dum_pre l d n k (by omega), List.getElem?_append_left (by omega), dfz_pre l d k (by omega), dfz_pre l d (k + 1) h]
theorem dat_last (l : List Dp) (d : Dp) : (l ++ [d])[l.length]?.getD zDp = d := by simp
theorem dfz_snoc (l : List Dp) (d : Dp) : dfz (l ++ [d]) (l ++ [d]).length = (dfz l l.length + ((d.tn : Int) - d.wz)) % 4294967296 := by
  rw [List.length_append, List.length_singleton]
  show (dfz (l ++ [d]) l.length + ((((l ++ [d])[l.length]?.getD zDp).tn : Int) - ((l ++ [d])[l.length]?.getD zDp).wz)) % 4294967296 = _
  rw [dat_last, dfz_pre l d _ (Nat.le_refl _)]
theorem RS.len {lp : List Pa} {ld : List Dp} (h : RS lp ld) : lp.length = ld.length := by
  induction h with
  | nil => rfl
  | add h s wz n ta tc ta' tc' hs hw hn ih => simp [ih]
theorem RS.tn {lp : List Pa} {ld : List Dp} (h : RS lp ld) : ∀ d ∈ ld, d.tn ≤ 128 := by
  induction h with
  | nil => simp
  | add h s wz n ta tc ta' tc' hs hw hn ih =>
    intro d hd
    rcases List.mem_append.1 hd with h | h
    · exact ih d h
    · simp at h; subst h; dsimp only; omega
theorem RS.shf {lp : List Pa} {ld : List Dp} (h : RS lp ld) : shf lp = dfz ld ld.length := by
  induction h with
  | nil => rfl
  | add h s wz n ta tc ta' tc' hs hw hn ih =>
    rw [shf_new, dfz_snoc, ih]
    dsimp only
    congr 1
    omega
theorem mapS_snoc (l : List Pa) (p : Pa) (n : Int) : mapS (l ++ [p]) n = if bhd p.ws n then mapS l n else if bhd p.we n then p.is else (n + (p.ie - p.we)) % 4294967296 := by
  unfold mapS
  rw [List.reverse_append]
  rfl
theorem unmS_snoc (l : List Pa) (p : Pa) (n : Int) : unmS (l ++ [p]) n = if bhd p.is n then unmS l n else if bhd p.ie n then p.ws else (n + (p.we - p.ie)) % 4294967296 := by
  unfold unmS
  rw [List.reverse_append]
  rfl
theorem dmp_snoc (l : List Dp) (d : Dp) (n : Int) : dmp (l ++ [d]) n (l.length + 1) = if bhd d.st n then dmp l n l.length else if bhd (dend d) n then (d.st + dfz l l.length) % 4294967296 else (n + (dfz l l.length + ((d.tn : Int) - d.wz)) % 4294967296) % 4294967296 := by
  have e1 := dfz_snoc l d
  rw [List.length_append, List.length_singleton] at e1
  rw [dmp, dat_last, dmp_pre _ _ _ _ (Nat.le_refl _), dfz_pre _ _ _ (Nat.le_refl _), e1]
theorem dum_snoc (l : List Dp) (d : Dp) (n : Int) : dum (l ++ [d]) n (l.length + 1) = if bhd ((d.st + dfz l l.length) % 4294967296) n then dum l n l.length else if bhd (((d.st + dfz l l.length) % 4294967296 + (d.tn : Int)) % 4294967296) n then d.st else (n - (dfz l l.length + ((d.tn : Int) - d.wz)) % 4294967296) % 4294967296 := by
  have e1 := dfz_snoc l d
  rw [List.length_append, List.length_singleton] at e1
  rw [dum, dat_last, dum_pre _ _ _ _ (Nat.le_refl _), dfz_pre _ _ _ (Nat.le_refl _), e1]
theorem RS.map {lp : List Pa} {ld : List Dp} (h : RS lp ld) (n : Int) : mapS lp n = dmp ld n ld.length := by
  induction h with
  | nil => rfl
  | add h s wz n' ta tc ta' tc' hs hw hn ih =>
    rw [mapS_snoc, List.length_append, List.length_singleton, dmp_snoc, ih]
    unfold npP dend
    dsimp only
    rw [h.shf]
    split
    · rfl
    · split
      · rfl
      · omega
theorem RS.unm {lp : List Pa} {ld : List Dp} (h : RS lp ld) (n : Int) : unmS lp n = dum ld n ld.length := by
  induction h with
  | nil => rfl
  | add h s wz n' ta tc ta' tc' hs hw hn ih =>
    rw [unmS_snoc, List.length_append, List.length_singleton, dum_snoc, ih]
    unfold npP
    dsimp only
    rw [h.shf, Int.emod_add_emod]
    split
    · rfl
    · split
      · rfl
      · omega
theorem snoc_ne {α : Type} (l : List α) (x : α) : (l ++ [x]).isEmpty = false := by cases l <;> rfl
/-- What the document's Add asks of the last part. -/
def dps' (l : List Dp) (s : Int) : Bool := !l.isEmpty && decide (ahd s (dend (l.getLast?.getD zDp)) < 0)
theorem RS.pssd {lp : List Pa} {ld : List Dp} (h : RS lp ld) (x : Int) : pssd lp x = dps' ld x := by
  cases h with
  | nil => rfl
  | add h s wz n ta tc ta' tc' hs hw hn =>
    unfold Go.Proofs.Ytaaanmjmgnpcgaa.pssd dps'
    rw [lstP_snoc, snoc_ne, snoc_ne, List.getLast?_concat]
    rfl
end Go.Proofs.Ytaaanmjmgnpcgaa
