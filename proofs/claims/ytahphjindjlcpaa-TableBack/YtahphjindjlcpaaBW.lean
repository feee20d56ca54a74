/- The program's rows and the document's: the same, in another order. -/
import Derived.Test.YtahphjindjlcpaaBV
namespace Go.Proofs.Ytahphjindjlcpaa
open Go.RowKit Go.Shelf
set_option maxRecDepth 100000
set_option linter.unusedVariables false
set_option linter.unusedSimpArgs false

def rky (r : Rw) : Int × Int × Int × Int × Int := (r.p, r.s, r.d, r.a, r.b)
theorem isK_iff {p s d a b : Int} {r : Rw} : isK p s d a b r = true ↔ rky r = (p, s, d, a, b) := by
  unfold isK rky
  simp
/-- No key stands twice. -/
def UP (l : List Rw) : Prop := l.Pairwise (fun r q => rky r ≠ rky q)
theorem UP.uq {l : List Rw} (h : UP l) : UQ l := fun kp ks kd ka kb i j hi hj h1 h2 => by
  have e : rky l[i] = rky l[j] := by rw [isK_iff.1 h1, isK_iff.1 h2]
  unfold UP at h
  rw [List.pairwise_iff_getElem] at h
  rcases Nat.lt_trichotomy i j with hlt | he | hgt
  · exact absurd e (h i j hi hj hlt)
  · exact he
  · exact absurd e.symm (h j i hj hi hgt)
/-- The list that a row stands in. -/
def bkr (r : Rw) : Nat := (hsh (tb r.p r.s r.d r.a r.b) % 256).toNat
theorem bkr_key {p s d a b : Int} {r : Rw} (h : isK p s d (kyp p a) b r = true) : bkr r = bki p s d a b := by
  have := isK_iff.1 h
  unfold rky at this
  simp at this
  unfold bkr bki
  rw [this.1, this.2.1, this.2.2.1, this.2.2.2.1, this.2.2.2.2]
structure Rel (ls : Nat → List Rw) (l : List Rw) : Prop where
  place : ∀ i, ∀ r ∈ ls i, bkr r = i
  once : ∀ i, UP (ls i)
  up : UP l
  mem : ∀ r, r ∈ l ↔ r ∈ ls (bkr r)
theorem Rel.uq {ls : Nat → List Rw} {l : List Rw} (h : Rel ls l) (i : Nat) : UQ (ls i) := (h.once i).uq
theorem kix_none_iff {kp ks kd ka kb : Int} {l : List Rw} : kix kp ks kd ka kb l = none ↔ ∀ r ∈ l, isK kp ks kd ka kb r = false := by
  unfold kix
  rw [List.findIdx?_eq_none_iff]
theorem Rel.kxe {ls : Nat → List Rw} {l : List Rw} (h : Rel ls l) (p s d a b : Int) : kx p s d a b ls = none ↔ kix p s d (kyp p a) b l = none := by
  unfold kx
  rw [kix_none_iff, kix_none_iff]
  constructor
  · intro hn r hr
    cases hb : isK p s d (kyp p a) b r with
    | false => rfl
    | true =>
      have := (h.mem r).1 hr
      rw [bkr_key hb] at this
      rw [hn r this] at hb
      cases hb
  · intro hn r hr
    cases hb : isK p s d (kyp p a) b r with
    | false => rfl
    | true =>
      have hm : r ∈ ls (bkr r) := by rw [bkr_key hb]; exact hr
      rw [hn r ((h.mem r).2 hm)] at hb
      cases hb
theorem Rel.empty : Rel (fun _ => []) [] := ⟨fun _ _ h => (by cases h), fun _ => List.Pairwise.nil, List.Pairwise.nil, fun r => by simp⟩
theorem Rel.map {ls : Nat → List Rw} {l : List Rw} (h : Rel ls l) (F : Rw → Rw) (hF : ∀ r, rky (F r) = rky r) : Rel (fun j => (ls j).map F) (l.map F) := by
  have hb : ∀ r, bkr (F r) = bkr r := fun r => by have := hF r; unfold rky at this; simp at this; unfold bkr; rw [this.1, this.2.1, this.2.2.1, this.2.2.2.1, this.2.2.2.2]
  have hu : ∀ m : List Rw, UP m → UP (m.map F) := fun m hm => by
    unfold UP at *
    rw [List.pairwise_map]
    exact hm.imp (fun {x y} hxy => by rw [hF, hF]; exact hxy)
  refine ⟨fun i r hr => ?_, fun i => hu _ (h.once i), hu _ h.up, fun r => ?_⟩
  · obtain ⟨q, hq, rfl⟩ := List.mem_map.1 hr
    rw [hb]
    exact h.place i q hq
  · simp only [List.mem_map]
    constructor
    · rintro ⟨q, hq, rfl⟩
      exact ⟨q, by rw [hb]; exact (h.mem q).1 hq, rfl⟩
    · rintro ⟨q, hq, rfl⟩
      exact ⟨q, (h.mem q).2 (by rw [hb] at hq; exact hq), rfl⟩
theorem Rel.filter {ls : Nat → List Rw} {l : List Rw} (h : Rel ls l) (G : Rw → Bool) : Rel (fun j => (ls j).filter G) (l.filter G) := by
  refine ⟨fun i r hr => h.place i r (List.mem_filter.1 hr).1, fun i => List.Pairwise.filter _ (h.once i), List.Pairwise.filter _ h.up, fun r => ?_⟩
  simp only [List.mem_filter]
  rw [h.mem r]
theorem Rel.add {ls : Nat → List Rw} {l : List Rw} (h : Rel ls l) (x : Rw) (hn : ∀ r ∈ l, rky r ≠ rky x) : Rel (addL ls (bkr x) x) (l ++ [x]) := by
  have hns : ∀ r ∈ ls (bkr x), rky r ≠ rky x := fun r hr => hn r ((h.mem r).2 (by rw [h.place _ r hr]; exact hr))
  have hsnoc : ∀ m : List Rw, UP m → (∀ r ∈ m, rky r ≠ rky x) → UP (m ++ [x]) := fun m hm hx => by
    unfold UP at *
    rw [List.pairwise_append]
    exact ⟨hm, by simp, fun r hr q hq => by rw [show q = x from by simpa using hq]; exact hx r hr⟩
  unfold addL
  refine ⟨fun i r hr => ?_, fun i => ?_, hsnoc _ h.up hn, fun r => ?_⟩
  · split at hr
    · rename_i hi
      rcases List.mem_append.1 hr with h1 | h1
      · rw [hi]; exact h.place _ r h1
      · rw [hi, show r = x from by simpa using h1]
    · exact h.place i r hr
  · split
    · exact hsnoc _ (h.once _) hns
    · exact h.once i
  · rw [List.mem_append, h.mem r]
    split
    · rename_i hi
      rw [List.mem_append, hi]
    · rename_i hi
      constructor
      · rintro (h1 | h1)
        · exact h1
        · exact absurd (by rw [show r = x from by simpa using h1]) hi
      · exact .inl
theorem kix_at {kp ks kd ka kb : Int} {l : List Rw} {k : Nat} (h : kix kp ks kd ka kb l = some k) : ∃ hk : k < l.length, isK kp ks kd ka kb l[k] = true := by
  unfold kix at h
  rw [List.findIdx?_eq_some_iff_getElem] at h
  exact ⟨h.1, h.2.1⟩
theorem modify_map {l : List Rw} {kp ks kd ka kb : Int} {k : Nat} (hu : UQ l) (hk : kix kp ks kd ka kb l = some k) (f : Rw → Rw) : l.modify k f = l.map (fun r => if isK kp ks kd ka kb r = true then f r else r) := by
  obtain ⟨hkl, hkt⟩ := kix_at hk
  apply List.ext_getElem
  · simp
  · intro j h1 h2
    rw [List.getElem_modify, List.getElem_map]
    by_cases hj : k = j
    · subst hj
      rw [if_pos rfl, if_pos hkt]
    · rw [if_neg hj, if_neg (by rw [hu.others hk j (by simpa using h1) (fun e => hj e.symm)]; simp)]
theorem erase_filter {l : List Rw} {kp ks kd ka kb : Int} {k : Nat} (hu : UQ l) (hk : kix kp ks kd ka kb l = some k) : l.eraseIdx k = l.filter (fun r => !isK kp ks kd ka kb r) := by
  obtain ⟨hkl, hkt⟩ := kix_at hk
  have ho := hu.others hk
  have e : l = l.take k ++ (l[k] :: l.drop (k + 1)) := by rw [← List.drop_eq_getElem_cons hkl, List.take_append_drop]
  have f1 : (l.take k).filter (fun r => !isK kp ks kd ka kb r) = l.take k := List.filter_eq_self.2 fun r hr => by
    obtain ⟨j, hj, rfl⟩ := List.getElem_of_mem hr
    rw [List.getElem_take, ho j (by simp at hj; omega) (by simp at hj; omega)]
    rfl
  have f2 : (l.drop (k + 1)).filter (fun r => !isK kp ks kd ka kb r) = l.drop (k + 1) := List.filter_eq_self.2 fun r hr => by
    obtain ⟨j, hj, rfl⟩ := List.getElem_of_mem hr
    rw [List.getElem_drop, ho (k + 1 + j) (by simp at hj; omega) (by omega)]
    rfl
  rw [List.eraseIdx_eq_take_drop_succ]
  conv => rhs; rw [e]
  rw [List.filter_append, List.filter_cons, f1, f2, if_neg (by rw [hkt]; simp)]
theorem Rel.other {ls : Nat → List Rw} {l : List Rw} (h : Rel ls l) {p s d a b : Int} {j : Nat} (hj : j ≠ bki p s d a b) : ∀ r ∈ ls j, isK p s d (kyp p a) b r = false := fun r hr => by
  cases hb : isK p s d (kyp p a) b r with
  | false => rfl
  | true => exact absurd ((h.place j r hr).symm.trans (bkr_key hb)) hj
theorem Rel.moved {ls : Nat → List Rw} {l : List Rw} (h : Rel ls l) {p s d a b : Int} {k k' : Nat} (hk : kx p s d a b ls = some k) (hk' : kix p s d (kyp p a) b l = some k') (x y : Int) : Rel (mvL ls (bki p s d a b) k x y) (l.modify k' (fun r => { r with till := x, turn := y })) := by
  have e : mvL ls (bki p s d a b) k x y = fun j => (ls j).map (fun r => if isK p s d (kyp p a) b r = true then { r with till := x, turn := y } else r) := by
    funext j
    unfold mvL
    split
    · rename_i hj
      subst hj
      exact modify_map (h.uq _) hk _
    · rename_i hj
      have : ∀ r ∈ ls j, (fun r : Rw => if isK p s d (kyp p a) b r = true then { r with till := x, turn := y } else r) r = r := fun r hr => by
        simp only
        rw [h.other hj r hr]
        simp
      rw [List.map_congr_left this]
      simp
  rw [e, modify_map h.up.uq hk' _]
  exact h.map _ (fun r => by unfold rky; split <;> rfl)
theorem Rel.dropped {ls : Nat → List Rw} {l : List Rw} (h : Rel ls l) {p s d a b : Int} {k k' : Nat} (hk : kx p s d a b ls = some k) (hk' : kix p s d (kyp p a) b l = some k') : Rel (dpL ls (bki p s d a b) k) (l.eraseIdx k') := by
  have e : dpL ls (bki p s d a b) k = fun j => (ls j).filter (fun r => !isK p s d (kyp p a) b r) := by
    funext j
    unfold dpL
    split
    · rename_i hj
      subst hj
      exact erase_filter (h.uq _) hk
    · rename_i hj
      exact (List.filter_eq_self.2 fun r hr => by rw [h.other hj r hr]; rfl).symm
  rw [e, erase_filter h.up.uq hk']
  exact h.filter _
end Go.Proofs.Ytahphjindjlcpaa
