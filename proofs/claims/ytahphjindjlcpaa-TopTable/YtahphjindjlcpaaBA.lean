/- Package table: rows as they lie in memory; which row is a tuple's. -/
import Derived.Test.YtahphjindjlcpaaKK
import Derived.Test.YtahphjindjlcpaaRh
import Derived.Test.YtahphjindjlcpaaRt
import Derived.Test.YtahphjindjlcpaaRx
namespace Go.Proofs.Ytahphjindjlcpaa
open Go.RowKit Go.Shelf
set_option maxRecDepth 100000
set_option linter.unusedVariables false
set_option linter.unusedSimpArgs false

/-- A row: its key, its number, its time, its turn. -/
structure Rw where
  p : Int
  s : Int
  d : Int
  a : Int
  b : Int
  id : Int
  till : Int
  turn : Int
deriving DecidableEq
def rwc (r : Rw) : List Value := [.int .u8 r.p, .int .u32 r.s, .int .u32 r.d, .int .u16 r.a, .int .u16 r.b, .int .i64 r.id, .int .i64 r.till, .int .i64 r.turn]
def rwk (r : Rw) : List Value := [.int .u8 r.p, .int .u32 r.s, .int .u32 r.d, .int .u16 r.a, .int .u16 r.b]
def rws (l : List Rw) : List Value := l.flatMap rwc
theorem rwc_length (r : Rw) : (rwc r).length = 8 := rfl
theorem rws_length (l : List Rw) : (rws l).length = l.length * 8 := by
  induction l with
  | nil => rfl
  | cons r l ih => unfold rws at ih ⊢; rw [List.flatMap_cons, List.length_append, ih, rwc_length, List.length_cons]; omega
theorem rws_at : ∀ (l : List Rw) (j i : Nat) (hj : j < l.length), i < 8 → (rws l)[j * 8 + i]? = (rwc l[j])[i]?
  | r :: l, 0, i, _, hi => by
    unfold rws
    rw [List.flatMap_cons, Nat.zero_mul, Nat.zero_add, List.getElem?_append_left (by rw [rwc_length]; exact hi)]
    rfl
  | r :: l, j + 1, i, hj, hi => by
    have ih := rws_at l j i (by simpa using hj) hi
    unfold rws at ih ⊢
    rw [List.flatMap_cons, List.getElem?_append_right (by rw [rwc_length]; omega), rwc_length, show (j + 1) * 8 + i - 8 = j * 8 + i from by omega, ih]
    rfl
/-- The slice value reads as these rows, all of it below block n₀. -/
def RdR (n₀ : Nat) (W : World) (sv : Value) (l : List Rw) : Prop :=
  (∃ a cap, sv = .slice a 0 cap ∧ l = [] ∧ cap ≤ 9223372036854775807 ∧ (a = none → cap = 0)) ∨
  ∃ b off cap, sv = .slice (some ⟨b, off, none⟩) l.length cap ∧ l ≠ [] ∧ l.length ≤ cap ∧ cap ≤ 9223372036854775807 ∧ b < n₀ ∧ ∀ j (hj : j < l.length), ∀ i, i < 8 → W.cell? ⟨b, off + j * 8 + i, none⟩ = (rwc l[j])[i]?
theorem RdR.below {n₀ : Nat} {A B : World} (h : Below n₀ A B) {sv : Value} {l : List Rw} : RdR n₀ A sv l → RdR n₀ B sv l
  | .inl e => .inl e
  | .inr ⟨b, off, cap, e, hne, hl, hm, hb, hc⟩ => .inr ⟨b, off, cap, e, hne, hl, hm, hb, fun j hj i hi => (h.cell (p := ⟨b, off + j * 8 + i, none⟩) hb).trans (hc j hj i hi)⟩
theorem RdR.mono {n₀ n₁ : Nat} {A : World} (h : n₀ ≤ n₁) {sv : Value} {l : List Rw} : RdR n₀ A sv l → RdR n₁ A sv l
  | .inl e => .inl e
  | .inr ⟨b, off, cap, e, hne, hl, hm, hb, hc⟩ => .inr ⟨b, off, cap, e, hne, hl, hm, Nat.lt_of_lt_of_le hb h, hc⟩
theorem RdR.slice {n₀ : Nat} {A : World} {sv : Value} {l : List Rw} : RdR n₀ A sv l → ∃ a cap, sv = .slice a l.length cap ∧ l.length ≤ cap ∧ cap ≤ 9223372036854775807
  | .inl ⟨a, cap, e, hz, hm, _⟩ => ⟨a, cap, by rw [e, hz]; rfl, by rw [hz]; exact Nat.zero_le _, hm⟩
  | .inr ⟨b, off, cap, e, _, hl, hm, _⟩ => ⟨_, cap, e, hl, hm⟩
theorem RdR.cells {n₀ : Nat} {W : World} {sv : Value} {l : List Rw} (h : RdR n₀ W sv l) (hne : 0 < l.length) : ∃ b off cap, sv = .slice (some ⟨b, off, none⟩) l.length cap ∧ l.length ≤ cap ∧ cap ≤ 9223372036854775807 ∧ b < n₀ ∧ ∀ j (hj : j < l.length), ∀ i, i < 8 → W.cell? ⟨b, off + j * 8 + i, none⟩ = (rwc l[j])[i]? := by
  rcases h with ⟨a, cap, _, rfl, _⟩ | ⟨b, off, cap, e, _, hl, hm, hb, hc⟩
  · simp at hne
  · exact ⟨b, off, cap, e, hl, hm, hb, hc⟩
/-- What one's own row of rows reads as. -/
theorem ownR_rd {base : Nat} {W : World} {v : Value} {l : List Rw} (h : W.ownsRow base 65 8 v l.length (rws l)) : RdR W.heap.size W v l := by
  obtain ⟨h1, ⟨rfl, h0⟩ | ⟨g, cap, cur, rfl, hg, hh, hl, hm, hs, hc⟩⟩ := h
  · have : l = [] := List.eq_nil_of_length_eq_zero h0
    subst this
    exact .inl ⟨none, 0, rfl, rfl, by omega, fun _ => rfl⟩
  · by_cases hn : l = []
    · subst hn
      exact .inl ⟨_, cap, rfl, rfl, by simpa [maxLen] using hm, fun h => by cases h⟩
    · refine .inr ⟨g, 0, cap, rfl, hn, hl, by simpa [maxLen] using hm, (Array.getElem?_eq_some_iff.1 hh).1, fun j hj i hi => ?_⟩
      rw [Nat.zero_add, block_cell hh, ← rws_at l j i hj hi, ← hc, List.getElem?_take_of_lt (by omega)]
      simp

/-- Is the row this key's? -/
def isK (kp ks kd ka kb : Int) (r : Rw) : Bool := r.p == kp && (r.s == ks && (r.d == kd && (r.a == ka && r.b == kb)))

theorem tup_eql (p s d a b p2 s2 d2 a2 b2 : Int) (w : World) : (binOp .eql 26 (.agg #[.int .u8 p, .int .u32 s, .int .u32 d, .int .u16 a, .int .u16 b]) (.agg #[.int .u8 p2, .int .u32 s2, .int .u32 d2, .int .u16 a2, .int .u16 b2])).run Try.prog w = .ok (.bool (p == p2 && (s == s2 && (d == d2 && (a == a2 && b == b2))))) w := by
  go_simp
  by_cases h1 : p = p2 <;> by_cases h2 : s = s2 <;> by_cases h3 : d = d2 <;> by_cases h4 : a = a2 <;> by_cases h5 : b = b2 <;> simp [h1, h2, h3, h4, h5]

set_option maxHeartbeats 2000000 in
theorem of_key (p s d a b : Int) (w : World) : Calls Try.prog 38 #[.agg #[.int .u8 p, .int .u32 s, .int .u32 d, .int .u16 a, .int .u16 b]] w fun e w' => ∃ g, e = .returned (.func (.func 50) #[] #[.pointer (some ⟨g, 0, none⟩)]) ∧ Below w.heap.size w w' ∧ w.heap.size ≤ g ∧ w'.heap[g]? = some (.cells #[.int .u8 p, .int .u32 s, .int .u32 d, .int .u16 (kyp p a), .int .u16 b] 26 (0, 0)) := by
  have hb0 : Below w.heap.size w (w.alloc (.cells #[.int .u8 p, .int .u32 s, .int .u32 d, .int .u16 a, .int .u16 b] 26)) := (Below.refl _ _).alloc (Nat.le_refl _) _
  go_enter Try.func38, Try.ntmps38
  go_wp2_with fail
  generalize w.alloc (.cells #[.int .u8 p, .int .u32 s, .int .u32 d, .int .u16 a, .int .u16 b] 26) = w0 at *
  refine (key_any p s d a b w0).mono ?_
  rintro e w1 ⟨rfl, hb1⟩
  generalize hk : kyp p a = ka at *
  have HK := hide hk
  clear hk
  have hw1 := hb0.trans (hb1.mono hb0.size)
  have la : Later w1 (w1.alloc (.cells #[.int .u8 p, .int .u32 s, .int .u32 d, .int .u16 ka, .int .u16 b] 26)) := (Below.refl _ _).alloc (Nat.le_refl _) _
  have gk := heap_alloc_new w1 (.cells #[.int .u8 p, .int .u32 s, .int .u32 d, .int .u16 ka, .int .u16 b] 26)
  have hw2 := hw1.trans (la.mono hw1.size)
  have hsz := hw1.size
  go_wp2_with fail
  go_ret
  exact ⟨w1.heap.size, rfl, hw2, hsz, by rw [HK.out]; exact gk⟩

set_option maxHeartbeats 2000000 in
theorem is_any (r : Rw) (g : Nat) (kp ks kd ka kb : Int) (w : World) (hg : w.heap[g]? = some (.cells #[.int .u8 kp, .int .u32 ks, .int .u32 kd, .int .u16 ka, .int .u16 kb] 26 (0, 0))) :
    Calls Try.prog 50 #[.agg (rwc r).toArray, .pointer (some ⟨g, 0, none⟩)] w fun e w' => e = .returned (.bool (isK kp ks kd ka kb r)) ∧ Below w.heap.size w w' := by
  obtain ⟨p, s, d, a, b, id, till, turn⟩ := r
  unfold rwc isK
  have hb0 : Below w.heap.size w (w.alloc (.cells #[.int .u8 p, .int .u32 s, .int .u32 d, .int .u16 a, .int .u16 b, .int .i64 id, .int .i64 till, .int .i64 turn] 65)) := (Below.refl _ _).alloc (Nat.le_refl _) _
  have kg := block_cell (later_keep hb0 hg)
  go_enter Try.func50, Try.ntmps50
  go_wp2_with fail
  all_goals go_ret
  all_goals exact ⟨by simp_all, (Below.refl _ _).alloc (Nat.le_refl _) _⟩
end Go.Proofs.Ytahphjindjlcpaa
