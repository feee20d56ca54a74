/- Package rules: rules as they lie in memory; their upper bits. -/
import Derived.Test.YtgjemeibaghfaabRh
import Derived.Test.YtgjemeibaghfaabRt
import Derived.Test.YtgjemeibaghfaabRx
namespace Go.Proofs.Ytgjemeibaghfaab
open Go.RowKit Go.Shelf
set_option maxRecDepth 100000
set_option linter.unusedVariables false
set_option linter.unusedSimpArgs false

/-- A rule. -/
structure Ru where
  kind : Int
  proto : Int
  net : Int
  bits : Int
  to : Int
  port : Int
  host : Int
  hp : Int
deriving DecidableEq
def ruc (r : Ru) : List Value := [.int .i64 r.kind, .int .u8 r.proto, .int .u32 r.net, .int .i64 r.bits, .int .u32 r.to, .int .u16 r.port, .int .u32 r.host, .int .u16 r.hp]
def zRu : Ru := ⟨0, 0, 0, 0, 0, 0, 0, 0⟩
def rus (l : List Ru) : List Value := l.flatMap ruc
theorem ruc_length (r : Ru) : (ruc r).length = 8 := rfl
theorem rus_length (l : List Ru) : (rus l).length = l.length * 8 := by
  induction l with
  | nil => rfl
  | cons r l ih => unfold rus at ih ⊢; rw [List.flatMap_cons, List.length_append, ih, ruc_length, List.length_cons]; omega
theorem rus_snoc (l : List Ru) (r : Ru) : rus (l ++ [r]) = rus l ++ ruc r := by unfold rus; simp
theorem rus_append (l m : List Ru) : rus (l ++ m) = rus l ++ rus m := by unfold rus; simp
theorem rus_at : ∀ (l : List Ru) (j i : Nat) (hj : j < l.length), i < 8 → (rus l)[j * 8 + i]? = (ruc l[j])[i]?
  | r :: l, 0, i, _, hi => by
    unfold rus
    rw [List.flatMap_cons, Nat.zero_mul, Nat.zero_add, List.getElem?_append_left (by rw [ruc_length]; exact hi)]
    rfl
  | r :: l, j + 1, i, hj, hi => by
    have ih := rus_at l j i (by simpa using hj) hi
    unfold rus at ih ⊢
    rw [List.flatMap_cons, List.getElem?_append_right (by rw [ruc_length]; omega), ruc_length, show (j + 1) * 8 + i - 8 = j * 8 + i from by omega, ih]
    rfl
/-- Its numbers are of their types. -/
def wfR (r : Ru) : Prop := (-9223372036854775808 ≤ r.kind ∧ r.kind ≤ 9223372036854775807) ∧ (0 ≤ r.proto ∧ r.proto ≤ 255) ∧ (0 ≤ r.net ∧ r.net ≤ 4294967295) ∧ (-9223372036854775808 ≤ r.bits ∧ r.bits ≤ 9223372036854775807) ∧ (0 ≤ r.to ∧ r.to ≤ 4294967295) ∧ (0 ≤ r.port ∧ r.port ≤ 65535) ∧ (0 ≤ r.host ∧ r.host ≤ 4294967295) ∧ (0 ≤ r.hp ∧ r.hp ≤ 65535)
/-- The slice value reads as these rules, all of it below block n₀. -/
def RdQ (n₀ : Nat) (W : World) (sv : Value) (l : List Ru) : Prop :=
  (∃ a cap, sv = .slice a 0 cap ∧ l = [] ∧ cap ≤ 9223372036854775807 ∧ (a = none → cap = 0)) ∨
  ∃ b off cap, sv = .slice (some ⟨b, off, none⟩) l.length cap ∧ l ≠ [] ∧ l.length ≤ cap ∧ cap ≤ 9223372036854775807 ∧ b < n₀ ∧ ∀ j (hj : j < l.length), ∀ i, i < 8 → W.cell? ⟨b, off + j * 8 + i, none⟩ = (ruc l[j])[i]?
theorem RdQ.below {n₀ : Nat} {A B : World} (h : Below n₀ A B) {sv : Value} {l : List Ru} : RdQ n₀ A sv l → RdQ n₀ B sv l
  | .inl e => .inl e
  | .inr ⟨b, off, cap, e, hne, hl, hm, hb, hc⟩ => .inr ⟨b, off, cap, e, hne, hl, hm, hb, fun j hj i hi => (h.cell (p := ⟨b, off + j * 8 + i, none⟩) hb).trans (hc j hj i hi)⟩
theorem RdQ.mono {n₀ n₁ : Nat} {A : World} (h : n₀ ≤ n₁) {sv : Value} {l : List Ru} : RdQ n₀ A sv l → RdQ n₁ A sv l
  | .inl e => .inl e
  | .inr ⟨b, off, cap, e, hne, hl, hm, hb, hc⟩ => .inr ⟨b, off, cap, e, hne, hl, hm, Nat.lt_of_lt_of_le hb h, hc⟩
theorem RdQ.slice {n₀ : Nat} {A : World} {sv : Value} {l : List Ru} : RdQ n₀ A sv l → ∃ a cap, sv = .slice a l.length cap ∧ l.length ≤ cap ∧ cap ≤ 9223372036854775807
  | .inl ⟨a, cap, e, hz, hm, _⟩ => ⟨a, cap, by rw [e, hz]; rfl, by rw [hz]; exact Nat.zero_le _, hm⟩
  | .inr ⟨b, off, cap, e, _, hl, hm, _⟩ => ⟨_, cap, e, hl, hm⟩
theorem RdQ.cells {n₀ : Nat} {W : World} {sv : Value} {l : List Ru} (h : RdQ n₀ W sv l) (hne : 0 < l.length) : ∃ b off cap, sv = .slice (some ⟨b, off, none⟩) l.length cap ∧ l.length ≤ cap ∧ cap ≤ 9223372036854775807 ∧ b < n₀ ∧ ∀ j (hj : j < l.length), ∀ i, i < 8 → W.cell? ⟨b, off + j * 8 + i, none⟩ = (ruc l[j])[i]? := by
  rcases h with ⟨a, cap, _, rfl, _⟩ | ⟨b, off, cap, e, _, hl, hm, hb, hc⟩
  · simp at hne
  · exact ⟨b, off, cap, e, hl, hm, hb, hc⟩
/-- What one's own row of rules reads as. -/
theorem ownU_rd {base : Nat} {W : World} {v : Value} {l : List Ru} (h : W.ownsRow base 30 8 v l.length (rus l)) : RdQ W.heap.size W v l := by
  obtain ⟨h1, ⟨rfl, h0⟩ | ⟨g, cap, cur, rfl, hg, hh, hl, hm, hs, hc⟩⟩ := h
  · have : l = [] := List.eq_nil_of_length_eq_zero h0
    subst this
    exact .inl ⟨none, 0, rfl, rfl, by omega, fun _ => rfl⟩
  · by_cases hn : l = []
    · subst hn
      exact .inl ⟨_, cap, rfl, rfl, by simpa [maxLen] using hm, fun h => by cases h⟩
    · refine .inr ⟨g, 0, cap, rfl, hn, hl, by simpa [maxLen] using hm, (Array.getElem?_eq_some_iff.1 hh).1, fun j hj i hi => ?_⟩
      rw [Nat.zero_add, block_cell hh, ← rus_at l j i hj hi, ← hc, List.getElem?_take_of_lt (by omega)]
      simp
theorem ownU_later {base : Nat} {A B : World} {v : Value} {n : Nat} {xs : List Value} (h : A.ownsRow base 30 8 v n xs) (l : Later A B) : B.ownsRow base 30 8 v n xs := by
  obtain ⟨h1, h2 | ⟨g, cap, cur, hv, hg, hh, r⟩⟩ := h
  · exact ⟨h1, .inl h2⟩
  · exact ⟨h1, .inr ⟨g, cap, cur, hv, hg, later_keep l hh, r⟩⟩
/-- Rules as they lie in memory: at block b, of type t, the list in a block of its own. -/
def RL (t : TypeId) (base : Nat) (W : World) (b : Nat) (v : Value) (l : List Ru) : Prop := base ≤ b ∧ W.heap[b]? = some (.cells #[v] t (0, 0)) ∧ W.ownsRow base 30 8 v l.length (rus l)
theorem RL.later {t : TypeId} {base : Nat} {A B : World} {b : Nat} {v : Value} {l : List Ru} (h : RL t base A b v l) (k : Later A B) : RL t base B b v l := ⟨h.1, later_keep k h.2.1, ownU_later h.2.2 k⟩
theorem RL.but {t : TypeId} {base : Nat} {A B : World} {b : Nat} {v : Value} {l : List Ru} {E : Nat → Prop} (h : RL t base A b v l) (k : But E A B) (hb : ¬ E b) (hv : ∀ g, v.ownBlock = some g → ¬ E g) : RL t base B b v l := by
  refine ⟨h.1, (k.block b (Array.getElem?_eq_some_iff.1 h.2.1).1 hb).trans h.2.1, ?_⟩
  obtain ⟨h1, h2 | ⟨g, cap, cur, e, hg, hh, r⟩⟩ := h.2.2
  · exact ⟨h1, .inl h2⟩
  · exact ⟨h1, .inr ⟨g, cap, cur, e, hg, (k.block g (Array.getElem?_eq_some_iff.1 hh).1 (hv g (by rw [e]; rfl))).trans hh, r⟩⟩
/-- The list's block is no object's. -/
theorem RL.ne {t t2 : TypeId} {base : Nat} {W : World} {b c : Nat} {v : Value} {l : List Ru} {cur : Array Value} (h : RL t base W b v l) (hc : W.heap[c]? = some (.cells cur t2 (0, 0))) (ht : t2 ≠ 30) : v.ownBlock ≠ some c := fun e => by
  obtain ⟨h1, ⟨hn, _⟩ | ⟨g, cap, cu, hv, hg, hh, r⟩⟩ := h.2.2
  · rw [hn] at e; cases e
  · rw [hv] at e
    cases e
    rw [hc] at hh
    simp at hh
    exact ht hh.2
theorem RL.lt {t : TypeId} {base : Nat} {W : World} {b : Nat} {v : Value} {l : List Ru} (h : RL t base W b v l) {g : Nat} (e : v.ownBlock = some g) : base ≤ g ∧ g < W.heap.size := by
  obtain ⟨h1, ⟨hn, _⟩ | ⟨g2, cap, cu, hv, hg, hh, r⟩⟩ := h.2.2
  · rw [hn] at e; cases e
  · rw [hv] at e
    cases e
    exact ⟨hg, (Array.getElem?_eq_some_iff.1 hh).1⟩
theorem RL.blt {t : TypeId} {base : Nat} {W : World} {b : Nat} {v : Value} {l : List Ru} (h : RL t base W b v l) : b < W.heap.size := (Array.getElem?_eq_some_iff.1 h.2.1).1

/-- So many upper bits set. -/
def upm (k : Int) : Int := 4294967296 - 2 ^ (32 - k.toNat)
/-- A number's upper bits. -/
def upp (n k : Int) : Int := n / 2 ^ (32 - k.toNat) * 2 ^ (32 - k.toNat)
theorem nat_and_up (n j : Nat) (hj : j ≤ 32) (hn : n < 4294967296) : n &&& (4294967296 - 2 ^ j) = n / 2 ^ j * 2 ^ j := by
  have e : 4294967296 - 2 ^ j = (2 ^ (32 - j) - 1) <<< j := by
    rw [Nat.shiftLeft_eq, Nat.sub_mul, ← Nat.pow_add, show 32 - j + j = 32 from by omega]
    simp
  have e2 : n / 2 ^ j * 2 ^ j = (n >>> j) <<< j := by rw [Nat.shiftLeft_eq, Nat.shiftRight_eq_div_pow]
  rw [e, e2]
  apply Nat.eq_of_testBit_eq
  intro i
  simp only [Nat.testBit_and, Nat.testBit_shiftLeft, Nat.testBit_shiftRight, Nat.testBit_two_pow_sub_one]
  by_cases h : j ≤ i
  · simp [h]
    intro hb
    by_cases hi : i < 32
    · omega
    · have : n.testBit i = false := Nat.testBit_lt_two_pow (Nat.lt_of_lt_of_le hn (by rw [show 4294967296 = 2 ^ 32 from rfl]; exact Nat.pow_le_pow_right (by omega) (by omega)))
      rw [this] at hb; cases hb
  · simp [h]
theorem upm_bd (k : Int) (h0 : 0 ≤ k) (h1 : k ≤ 32) : 0 ≤ upm k ∧ upm k ≤ 4294967295 := by
  unfold upm
  have h2 : (2 : Nat) ^ (32 - k.toNat) ≤ 2 ^ 32 := Nat.pow_le_pow_right (by omega) (by omega)
  have h3 : 0 < (2 : Nat) ^ (32 - k.toNat) := Nat.pow_pos (by omega)
  have e : ((2 : Int) ^ (32 - k.toNat)) = ((2 ^ (32 - k.toNat) : Nat) : Int) := by simp
  rw [e]
  omega
end Go.Proofs.Ytgjemeibaghfaab
