/- Several texts in one. -/
import Derived.Test.YtfnlakpjepjhbaaDoorX2
import Derived.Test.YtfnlakpjepjhbaaDoorRh
import Derived.Test.YtfnlakpjepjhbaaDoorRt
import Derived.Test.YtfnlakpjepjhbaaDoorRx
import Derived.Deep.AppendLies
import Derived.Deep.Upon
import Derived.Test.YtfnlakpjepjhbaaDoorW1
import Derived.Deep.DeepCutAuto
import Derived.Deep.CutBlock
import Derived.Scope
import Derived.WalkMore
import Derived.Test.YtfnlakpjepjhbaaDoorCA
import Derived.Test.YtfnlakpjepjhbaaDoorFR
/- The walk of FtpWhole. -/
namespace Go.Proofs.YtfnlakpjepjhbaaDoor
open Go.RowKit Go.Shelf
set_option maxRecDepth 100000
set_option linter.unusedVariables false
set_option linter.unusedSimpArgs false

theorem find_str (P S ts : ByteArray) (m : Nat) (hm : m = P.size + ts.size + S.size) (W : World) (hT : TabR W) (back : Bool) (hsz : m ≤ 1000) (v : Value) (hv : fndB (nmsB P ++ (nmsB ts ++ nmsB S)) back = v) :
    Calls Tryd.prog 5 #[.slice (some ⟨W.heap.size, 0, none⟩) m (grownCap W m 0 5), .bool back] (Lib.bytesWorld W 5 (P ++ ts ++ S)) fun e w' => e = .returned v ∧ Later W w' := by
  have hs : (P ++ ts ++ S).size = m := by rw [ByteArray.size_append, ByteArray.size_append, hm]
  have l := conv_later W 5 (P ++ ts ++ S)
  have hr := conv_rdS W 5 (P ++ ts ++ S) (by omega)
  rw [hs] at hr
  have hn : nmsB (P ++ ts ++ S) = nmsB P ++ (nmsB ts ++ nmsB S) := by rw [nmsB_app, nmsB_app, List.append_assoc]
  refine (find_any _ (nmsB (P ++ ts ++ S)) back _ (hT.later l) (nmsB_by _) hr).mono ?_
  rintro e w' ⟨rfl, b⟩
  rw [hn, hv]
  exact ⟨rfl, Later.trans l b⟩
theorem txt_le (k a : Int) (ha : 0 ≤ a ∧ a ≤ 4294967295) (n : Nat) (hn : n ≤ 65535) : (txt k a n).length ≤ 40 := by
  rw [← txt_is, nmsB_len]
  unfold txtB
  split
  · have h1 := rowB_size tDot (ad4 a) (ad4_by a ha)
    have h2 := decB_size n hn
    have h3 : (ad4 a).length * (5 + tDot.size) = 24 := rfl
    have h4 : tOne.size = 3 := rfl
    have h5 : tBar.size = 1 := rfl
    simp only [ByteArray.size_append]
    omega
  · split
    · have h2 := decB_size n hn
      omega
    · have h1 := rowB_size cma (ad4 a ++ po2 n) (app_by (ad4_by a ha) (po2_by n (by omega)))
      have h3 : (ad4 a ++ po2 n).length * (5 + cma.size) = 36 := rfl
      omega
theorem whole_math {k : Int} {back : Bool} {pre suf : List Int} (hS : Sh k back pre suf) (hp : Mt.By pre) (hs : Mt.By suf) (hcp : ∀ z ∈ pre, z ≠ 13 ∧ z ≠ 10) (hcs : ∀ z ∈ suf, z ≠ 13 ∧ z ≠ 10) (hl : pre.length + suf.length ≤ 20) (a : Int) (ha : 0 ≤ a ∧ a ≤ 4294967295) (n : Nat) (hn : 0 < n) (hn2 : n ≤ 65535) (S : ByteArray) (hSe : nmsB S = suf ++ [13, 10]) :
    fndB (pre ++ (nmsB (txtB k a n) ++ nmsB S)) back = fdY k (pre.length : Nat) ((pre.length + (txt k a n).length : Nat) : Int) (if k = 4 then 0 else a) n := by
  rw [hSe, txt_is, show pre ++ (txt k a n ++ (suf ++ [13, 10])) = (pre ++ (txt k a n ++ suf)) ++ [13, 10] by simp]
  have h1 := txt_le k a ha n hn2
  rw [fndB_line back (by rw [crl_app, crl_app, crl_no hcp, crl_no (txt_cr k a n), crl_no hcs]; rfl) (by simp; omega)]
  exact fnd_mk hS hp hs a ha n hn hn2
theorem whole_zero (a : Int) (ha : 0 ≤ a ∧ a ≤ 4294967295) : fndB ([80, 79, 82, 84, 32] ++ (nmsB (txtB 1 a 0) ++ [13, 10])) false = fdN := by
  rw [txt_is, show ([80, 79, 82, 84, 32] ++ (txt 1 a 0 ++ [13, 10]) : List Int) = ([80, 79, 82, 84, 32] ++ (txt 1 a 0 ++ [])) ++ [13, 10] by simp]
  have h1 := txt_le 1 a ha 0 (by omega)
  rw [fndB_line false (by rw [crl_app, crl_app, crl_no (txt_cr 1 a 0)]; decide) (by simp; omega)]
  have hk : kdV ([80, 79, 82, 84, 32] ++ (txt 1 a 0 ++ [])) 0 false = (1, 5) := by unfold kdV; rw [if_pos rfl, if_pos (by rw [tkB_pre (by decide)]; decide +kernel)]
  have hw := wat_six a ha (0 : Nat) (by omega)
  have hby : Mt.By (ad4 a ++ po2 (0 : Nat)) := app_by (ad4_by a ha) (po2_by _ (by omega))
  have hr := rwT_at 44 (by decide) (ad4 a ++ po2 (0 : Nat)) 0 [80, 79, 82, 84, 32] [] (fun z hz => by simp at hz; omega) Mt.By.nil hby (by decide)
  rw [six_len, ← txt_six 1 a 0 (by omega) (by omega)] at hr
  unfold fnd
  rw [hk]
  simp only [if_true]
  unfold fd1 sixO
  rw [show cma = ⟨#[44]⟩ from rfl]
  have hr' : rowF ([80, 79, 82, 84, 32] ++ (txt 1 a 0 ++ [])) ⟨#[44]⟩ 6 0 5 = _ := hr
  rw [hr']
  simp only
  rw [if_neg (fun h => h.1 hw.2)]
theorem sh1 : Sh 1 false [80, 79, 82, 84, 32] [] := .inl ⟨rfl, rfl, rfl, by decide +kernel, rfl⟩
theorem sh2 : Sh 2 false [69, 80, 82, 84, 32] [] := .inr (.inl ⟨rfl, rfl, rfl, by decide +kernel, by decide +kernel, rfl⟩)
theorem sh3 : Sh 3 true [50, 50, 55, 32, 97, 32, 40] [41, 46] := .inr (.inr (.inl ⟨rfl, rfl, by decide +kernel, ⟨[50, 50, 55, 32], [97, 32], rfl, rfl, by decide⟩, [46], rfl⟩))
theorem sh4 : Sh 4 true [50, 50, 57, 32, 97, 32, 40, 124, 124, 124] [124, 41] := .inr (.inr (.inr ⟨rfl, rfl, by decide +kernel, by decide +kernel, ⟨[50, 50, 57, 32], [97, 32], rfl, rfl, by decide⟩, [], rfl⟩))

end Go.Proofs.YtfnlakpjepjhbaaDoor

/- Package seqadj: parts as they lie in memory; lists of them copied. -/
namespace Go.Proofs.YtfnlakpjepjhbaaDoor
open Go.RowKit Go.Shelf
set_option maxRecDepth 100000
set_option linter.unusedVariables false
set_option linter.unusedSimpArgs false

/-- A rule. -/
structure Pa where
  ws : Int
  we : Int
  is : Int
  ie : Int
  ta : Option Addr
  tn : Nat
  tc : Nat
def pac (r : Pa) : List Value := [.int .u32 r.ws, .int .u32 r.we, .int .u32 r.is, .int .u32 r.ie, .slice r.ta r.tn r.tc]
def zPa : Pa := ⟨0, 0, 0, 0, none, 0, 0⟩
def pas (l : List Pa) : List Value := l.flatMap pac
theorem pac_length (r : Pa) : (pac r).length = 5 := rfl
theorem pas_length (l : List Pa) : (pas l).length = l.length * 5 := by
  induction l with
  | nil => rfl
  | cons r l ih => unfold pas at ih ⊢; rw [List.flatMap_cons, List.length_append, ih, pac_length, List.length_cons]; omega
theorem pas_snoc (l : List Pa) (r : Pa) : pas (l ++ [r]) = pas l ++ pac r := by unfold pas; simp
theorem pas_append (l m : List Pa) : pas (l ++ m) = pas l ++ pas m := by unfold pas; simp
theorem pas_at : ∀ (l : List Pa) (j i : Nat) (hj : j < l.length), i < 5 → (pas l)[j * 5 + i]? = (pac l[j])[i]?
  | r :: l, 0, i, _, hi => by
    unfold pas
    rw [List.flatMap_cons, Nat.zero_mul, Nat.zero_add, List.getElem?_append_left (by rw [pac_length]; exact hi)]
    rfl
  | r :: l, j + 1, i, hj, hi => by
    have ih := pas_at l j i (by simpa using hj) hi
    unfold pas at ih ⊢
    rw [List.flatMap_cons, List.getElem?_append_right (by rw [pac_length]; omega), pac_length, show (j + 1) * 5 + i - 5 = j * 5 + i from by omega, ih]
    rfl
/-- Its numbers are of their types. -/
def wfP (r : Pa) : Prop := (0 ≤ r.ws ∧ r.ws ≤ 4294967295) ∧ (0 ≤ r.we ∧ r.we ≤ 4294967295) ∧ (0 ≤ r.is ∧ r.is ≤ 4294967295) ∧ (0 ≤ r.ie ∧ r.ie ≤ 4294967295)
/-- The slice value reads as these rules, all of it below block n₀. -/
def RdP (n₀ : Nat) (W : World) (sv : Value) (l : List Pa) : Prop :=
  (∃ a cap, sv = .slice a 0 cap ∧ l = [] ∧ cap ≤ 9223372036854775807 ∧ (a = none → cap = 0)) ∨
  ∃ b off cap, sv = .slice (some ⟨b, off, none⟩) l.length cap ∧ l ≠ [] ∧ l.length ≤ cap ∧ cap ≤ 9223372036854775807 ∧ b < n₀ ∧ ∀ j (hj : j < l.length), ∀ i, i < 5 → W.cell? ⟨b, off + j * 5 + i, none⟩ = (pac l[j])[i]?
theorem RdP.below {n₀ : Nat} {A B : World} (h : Below n₀ A B) {sv : Value} {l : List Pa} : RdP n₀ A sv l → RdP n₀ B sv l
  | .inl e => .inl e
  | .inr ⟨b, off, cap, e, hne, hl, hm, hb, hc⟩ => .inr ⟨b, off, cap, e, hne, hl, hm, hb, fun j hj i hi => (h.cell (p := ⟨b, off + j * 5 + i, none⟩) hb).trans (hc j hj i hi)⟩
theorem RdP.mono {n₀ n₁ : Nat} {A : World} (h : n₀ ≤ n₁) {sv : Value} {l : List Pa} : RdP n₀ A sv l → RdP n₁ A sv l
  | .inl e => .inl e
  | .inr ⟨b, off, cap, e, hne, hl, hm, hb, hc⟩ => .inr ⟨b, off, cap, e, hne, hl, hm, Nat.lt_of_lt_of_le hb h, hc⟩
theorem RdP.slice {n₀ : Nat} {A : World} {sv : Value} {l : List Pa} : RdP n₀ A sv l → ∃ a cap, sv = .slice a l.length cap ∧ l.length ≤ cap ∧ cap ≤ 9223372036854775807
  | .inl ⟨a, cap, e, hz, hm, _⟩ => ⟨a, cap, by rw [e, hz]; rfl, by rw [hz]; exact Nat.zero_le _, hm⟩
  | .inr ⟨b, off, cap, e, _, hl, hm, _⟩ => ⟨_, cap, e, hl, hm⟩
theorem RdP.cells {n₀ : Nat} {W : World} {sv : Value} {l : List Pa} (h : RdP n₀ W sv l) (hne : 0 < l.length) : ∃ b off cap, sv = .slice (some ⟨b, off, none⟩) l.length cap ∧ l.length ≤ cap ∧ cap ≤ 9223372036854775807 ∧ b < n₀ ∧ ∀ j (hj : j < l.length), ∀ i, i < 5 → W.cell? ⟨b, off + j * 5 + i, none⟩ = (pac l[j])[i]? := by
  rcases h with ⟨a, cap, _, rfl, _⟩ | ⟨b, off, cap, e, _, hl, hm, hb, hc⟩
  · simp at hne
  · exact ⟨b, off, cap, e, hl, hm, hb, hc⟩
/-- What one's own row of rules reads as. -/
theorem ownP_rd {base : Nat} {W : World} {v : Value} {l : List Pa} (h : W.ownsRow base 64 5 v l.length (pas l)) : RdP W.heap.size W v l := by
  obtain ⟨h1, ⟨rfl, h0⟩ | ⟨g, cap, cur, rfl, hg, hh, hl, hm, hs, hc⟩⟩ := h
  · have : l = [] := List.eq_nil_of_length_eq_zero h0
    subst this
    exact .inl ⟨none, 0, rfl, rfl, by omega, fun _ => rfl⟩
  · by_cases hn : l = []
    · subst hn
      exact .inl ⟨_, cap, rfl, rfl, by simpa [maxLen] using hm, fun h => by cases h⟩
    · refine .inr ⟨g, 0, cap, rfl, hn, hl, by simpa [maxLen] using hm, (Array.getElem?_eq_some_iff.1 hh).1, fun j hj i hi => ?_⟩
      rw [Nat.zero_add, block_cell hh, ← pas_at l j i hj hi, ← hc, List.getElem?_take_of_lt (by omega)]
      simp
theorem ownP_later {base : Nat} {A B : World} {v : Value} {n : Nat} {xs : List Value} (h : A.ownsRow base 64 5 v n xs) (l : Later A B) : B.ownsRow base 64 5 v n xs := by
  obtain ⟨h1, h2 | ⟨g, cap, cur, hv, hg, hh, r⟩⟩ := h
  · exact ⟨h1, .inl h2⟩
  · exact ⟨h1, .inr ⟨g, cap, cur, hv, hg, later_keep l hh, r⟩⟩
/-- Rules as they lie in memory: at block b, of type t, the list in a block of its own. -/
def SL (t : TypeId) (base : Nat) (W : World) (b : Nat) (v : Value) (l : List Pa) : Prop := base ≤ b ∧ W.heap[b]? = some (.cells #[v] t (0, 0)) ∧ W.ownsRow base 64 5 v l.length (pas l)
theorem SL.later {t : TypeId} {base : Nat} {A B : World} {b : Nat} {v : Value} {l : List Pa} (h : SL t base A b v l) (k : Later A B) : SL t base B b v l := ⟨h.1, later_keep k h.2.1, ownP_later h.2.2 k⟩
theorem SL.but {t : TypeId} {base : Nat} {A B : World} {b : Nat} {v : Value} {l : List Pa} {E : Nat → Prop} (h : SL t base A b v l) (k : But E A B) (hb : ¬ E b) (hv : ∀ g, v.ownBlock = some g → ¬ E g) : SL t base B b v l := by
  refine ⟨h.1, (k.block b (Array.getElem?_eq_some_iff.1 h.2.1).1 hb).trans h.2.1, ?_⟩
  obtain ⟨h1, h2 | ⟨g, cap, cur, e, hg, hh, r⟩⟩ := h.2.2
  · exact ⟨h1, .inl h2⟩
  · exact ⟨h1, .inr ⟨g, cap, cur, e, hg, (k.block g (Array.getElem?_eq_some_iff.1 hh).1 (hv g (by rw [e]; rfl))).trans hh, r⟩⟩
/-- The list's block is no object's. -/
theorem SL.ne {t t2 : TypeId} {base : Nat} {W : World} {b c : Nat} {v : Value} {l : List Pa} {cur : Array Value} (h : SL t base W b v l) (hc : W.heap[c]? = some (.cells cur t2 (0, 0))) (ht : t2 ≠ 64) : v.ownBlock ≠ some c := fun e => by
  obtain ⟨h1, ⟨hn, _⟩ | ⟨g, cap, cu, hv, hg, hh, r⟩⟩ := h.2.2
  · rw [hn] at e; cases e
  · rw [hv] at e
    cases e
    rw [hc] at hh
    simp at hh
    exact ht hh.2
theorem SL.lt {t : TypeId} {base : Nat} {W : World} {b : Nat} {v : Value} {l : List Pa} (h : SL t base W b v l) {g : Nat} (e : v.ownBlock = some g) : base ≤ g ∧ g < W.heap.size := by
  obtain ⟨h1, ⟨hn, _⟩ | ⟨g2, cap, cu, hv, hg, hh, r⟩⟩ := h.2.2
  · rw [hn] at e; cases e
  · rw [hv] at e
    cases e
    exact ⟨hg, (Array.getElem?_eq_some_iff.1 hh).1⟩
theorem SL.blt {t : TypeId} {base : Nat} {W : World} {b : Nat} {v : Value} {l : List Pa} (h : SL t base W b v l) : b < W.heap.size := (Array.getElem?_eq_some_iff.1 h.2.1).1

theorem info_part : (Tryd.prog.info? 64).map (fun i => (i.zero, i.size, i.bytes)) = some (some (.agg #[.int .u32 0, .int .u32 0, .int .u32 0, .int .u32 0, .slice none 0 0]), 5, 40) := by kernel_rfl

theorem info_partsP {P : Program} {t : TypeId} {z : Value} {a b : Nat} (h : (P.info? t).map (fun i => (i.zero, i.size, i.bytes)) = some (some z, a, b)) : ∃ i, P.info? t = some i ∧ i.zero = some z ∧ i.size = a ∧ i.bytes = b := by
  cases hi : P.info? t with
  | none => rw [hi] at h; cases h
  | some i => rw [hi] at h; simp at h; exact ⟨i, rfl, h.1, h.2.1, h.2.2⟩

theorem new_rowP (W : World) (x : Pa) : ∀ j u, (pac x)[j]? = some u → (W.alloc (.cells (pac x).toArray 64)).cell? ((⟨W.heap.size, 0, none⟩ : Addr).add j) = some u := fun j u hj => by
  rw [show (⟨W.heap.size, 0, none⟩ : Addr).add j = ⟨W.heap.size, j, none⟩ from by unfold Addr.add; split <;> simp_all, block_cell (heap_alloc_new W _) j]
  simpa using hj
/-- How a change of rules leaves them. -/
def SLq (t : TypeId) (base : Nat) (w w' : World) (b : Nat) (v : Value) (l : List Pa) : Prop := ∃ v', SL t base w' b v' l ∧ But (fun g => g = b ∨ v.ownBlock = some g) w w' ∧ (v'.ownBlock = v.ownBlock ∨ ∀ g, v'.ownBlock = some g → w.heap.size ≤ g)
theorem SLq.same {t : TypeId} {base : Nat} {w w' : World} {b : Nat} {v : Value} {l : List Pa} (h : SL t base w b v l) (k : Later w w') : SLq t base w w' b v l := ⟨v, h.later k, But.of k, .inl rfl⟩

theorem addr_add' (b off k : Nat) : (⟨b, off, none⟩ : Addr).add k = ⟨b, off + k, none⟩ := by unfold Addr.add; split <;> simp_all
theorem pas_one (l : List Pa) : ∀ u ∈ pas l, u.oneCell' = true := fun u hu => by
  obtain ⟨r, _, hr⟩ := List.mem_flatMap.1 hu
  simp only [pac, List.mem_cons, List.not_mem_nil, or_false] at hr
  rcases hr with rfl | rfl | rfl | rfl | rfl <;> rfl

/-- All of a list appended onto one's own. -/
theorem appP (w : World) (ty : TypeId) (base n₀ : Nat) (v : Value) (xs : List Pa) (sv : Value) (ys : List Pa) (hown : w.ownsRow base 64 5 v xs.length (pas xs)) (hI : RdP n₀ w sv ys) (hbase : base ≤ w.heap.size) (hs : xs.length + ys.length ≤ 10000) :
    ∃ v' w', (Builtin.append_ #[55, 55] ty #[v, sv]).run Tryd.prog w = .ok v' w' ∧ w'.ownsRow base 64 5 v' (xs ++ ys).length (pas (xs ++ ys)) ∧ w.grownBy w' v.ownBlock ∧ (v'.ownBlock = v.ownBlock ∨ v'.ownBlock = some w.heap.size) := by
  obtain ⟨i0, hi0, hz0, hz1, hz2⟩ := info_partsP info_part
  rcases hI with ⟨a, cap, rfl, rfl, hcm, ha⟩ | ⟨b, off, cap, rfl, hne, hl, hm, hb, hc⟩
  · obtain ⟨av, cv, rfl, hv1, hv2⟩ := (ownP_rd hown).slice
    refine ⟨_, w, run_append_nothing w _ _ ty _ i0 Tryd.underlying55 hi0 av xs.length cv hv1 (.slice a 0 cap) ?_, by rw [List.append_nil]; exact hown, ⟨rfl, rfl, rfl, Nat.le_refl _, fun _ _ _ => rfl⟩, .inl rfl⟩
    refine ⟨.inl ⟨_, Tryd.underlying55⟩, fun w' => ?_, ?_, ?_, by simp, by simp⟩ <;> cases a <;> simp [Builtin.lenOf, Builtin.firstCells, go_sem]
  · have hp : 0 < ys.length := List.length_pos_iff.2 hne
    obtain ⟨g, cap', w', hr, h2, h3, h4, h5⟩ := run_append_lies (P := Tryd.prog) w 55 ty base 64 i0 _ 5 40 Tryd.underlying55 hi0 hz0 hz1 hz2 rfl (by decide) v xs.length (pas xs) hown ⟨b, off, none⟩ ys.length cap (pas ys) (pas_length ys) (fun j u hj => by
      have hlt := (List.getElem?_eq_some_iff.1 hj).1
      rw [pas_length] at hlt
      rw [addr_add']
      have h1 := hc (j / 5) (by omega) (j % 5) (Nat.mod_lt _ (by omega))
      rw [← pas_at ys (j / 5) (j % 5) (by omega) (Nat.mod_lt _ (by omega)), show j / 5 * 5 + j % 5 = j from by omega, hj] at h1
      rw [← h1]
      congr 2
      omega) (pas_one ys) hp (by unfold maxLen; omega) (by omega) hbase _ rfl
    refine ⟨_, w', hr, by rw [List.length_append, pas_append]; exact h2, h3, ?_⟩
    rcases h4 with h4 | h4
    · exact .inl (by rw [h4]; rfl)
    · exact .inr (by rw [h4]; rfl)

theorem wpList_appv {P : Program} {ops : Array Oper} {rest : List Oper} {o : Oper} {a : Act} {Q : Exit → Act → World → Prop} {w : World} (hg : o.guard = none) (s x : Operand) (t : TypeId) (hop : o.op = Op.call { callee := Callee.builtin Builtin.append, args := #[s, x], argTypes := #[t, t] })
    (v sx : Value) (hs : a.eval s = v) (hx : a.eval x = sx) (v' : Value) (w' : World) (hrun : (Builtin.append_ #[t, t] o.type #[v, sx]).run P w = .ok v' w') (hk : wpList P ops Q rest (a.put o.dst v') w') : wpList P ops Q (o :: rest) a w :=
  wpList_plain hg fun K hK => wp_app s x t hop v sx hs hx v' w' hrun (hK _ _ hk)
theorem ownP_made (w : World) : (w.alloc (.cells #[] 64)).ownsRow w.heap.size 64 5 (.slice (some ⟨w.heap.size, 0, none⟩) 0 0) ([] : List Pa).length (pas []) :=
  ⟨rfl, .inr ⟨w.heap.size, 0, #[], rfl, Nat.le_refl _, heap_alloc_new w _, Nat.le_refl _, by unfold maxLen; omega, rfl, rfl⟩⟩
/-- A copy of a list in memory of its own. -/
theorem copyP (w : World) (ty : TypeId) (n₀ : Nat) (sv : Value) (ys : List Pa) (hI : RdP n₀ w sv ys) (hn : n₀ ≤ w.heap.size) (hs : ys.length ≤ 10000) :
    ∃ v' w', (Builtin.append_ #[55, 55] ty #[.slice (some ⟨w.heap.size, 0, none⟩) 0 0, sv]).run Tryd.prog (w.alloc (.cells #[] 64)) = .ok v' w' ∧ w'.ownsRow w.heap.size 64 5 v' ys.length (pas ys) ∧ Later w w' := by
  have la : Later w (w.alloc (.cells #[] 64)) := (Below.refl _ _).alloc (Nat.le_refl _) _
  obtain ⟨v', w', h1, h2, h3, h4⟩ := appP (w.alloc (.cells #[] 64)) ty w.heap.size n₀ _ [] sv ys (ownP_made w) (hI.below (la.mono hn)) la.size (by simpa using hs)
  refine ⟨v', w', h1, by simpa using h2, ?_⟩
  exact Below.trans la ⟨h3.os, h3.tape, h3.output, h3.size, fun k hk => h3.block k (by simp; omega) (fun e => by simp [Value.ownBlock] at e; omega)⟩

end Go.Proofs.YtfnlakpjepjhbaaDoor

/- A range over a function whose body may leave a block around it. -/
namespace Go.Proofs.YtfnlakpjepjhbaaDoor
open Go.RowKit Go.Shelf
set_option maxRecDepth 100000
set_option linter.unusedVariables false

/-- How a round's body is left: it goes on, or it leaves a block around. -/
def postZ {α : Type} (ex : Nat) (B : Nat) (Kp : World → World → Prop) (I Ix : List α → World → Prop) (xs : List α) (W : World) : Exit → Act → World → Prop
  | .normal, _, V => KeepsFrom B W V ∧ Kp W V ∧ I xs V
  | .exit id, _, V => id = ex ∧ KeepsFrom B W V ∧ Ix xs V
  | _, _, _ => False

theorem wpIn_rangeZ (ex : Nat) {F : Fence} {n : Nat} {P : Program} {α : Type} {g : Operand} {ps : Array Tmp} {assign body : Code} {Q : Exit → Act → World → Prop} {a : Act} {w : World}
    (hro : F.round = none) (h1 : 1 ≤ n) {gf : Nat} {lb : Array Value} (hg : a.eval g = .func (.func gf) #[] lb) (hFg : F.fn gf) (eg : ∀ args w, (callFunc gf args).run P w = .ok (.enter gf args) w)
    {encs : α → Array Value} {Kp : World → World → Prop} {X : List α → α → World → Prop} {S Sp : List α → Prop} (hseq : GenX F (n - 1) P gf lb encs Kp X S Sp w)
    (hKt : ∀ {A B C : World}, Kp A B → Kp B C → Kp A C) (hKb : ∀ (W : World) (l : Nat) (o o' : Obj), w.heap.size ≤ l → W.heap[l]? = some o → o.isCells = false → o.isWalk = false → Kp W (W.putObj l o'))
    (hKl : ∀ {A B : World}, w.heap.size ≤ A.heap.size → Later A B → Kp A B) (hXl : ∀ pre x A B, X pre x A → Later A B → X pre x B)
    (hXb : ∀ pre x (W : World) (l : Nat) (o o' : Obj), w.heap.size ≤ l → W.heap[l]? = some o → o.isCells = false → X pre x W → X pre x (W.putObj l o')) (hps : ∀ x, (encs x).size = ps.size)
    (I Ix : List α → World → Prop) (hI : OwnFrom w.heap.size I) (hIl : ∀ s A B, I s A → Later A B → I s B) (hIx : OwnFrom w.heap.size Ix) (h0 : I [] w)
    (A : α → Act → World → Prop) (hA : ∀ x a' (W : World) (l : Nat) (o o' : Obj), w.heap.size ≤ l → W.heap[l]? = some o → o.isCells = false → A x a' W → A x a' (W.putObj l o'))
    (hassign : ∀ (l : Nat) (pre : List α) (x : α) (W : World) (K : Act → World → Prop), w.heap.size ≤ W.heap.size → I pre W → X pre x W → (∀ a' W', Later W W' → A x a' W' → K a' W') →
      assign.wpIn (F.inRound l) (n - 1 - 1) P (Exit.then K (fun _ _ _ => False)) { tmps := (ps.zip (encs x)).foldl (fun t (p, v) => t.setIfInBounds p v) a.tmps, defers := [] } W)
    (hbody : ∀ (l : Nat) (pre : List α) (x : α) (a' : Act) (W : World), I pre W → X pre x W → A x a' W → body.wpIn (F.inRound l) (n - 1 - 1) P (postZ ex w.heap.size Kp I Ix (pre ++ [x]) W) a' W)
    (hdone : ∀ (D : Nat) (xs : List α) (W : World), w.heap.size ≤ D → S xs → I xs W → W.heap[D]? = some (.deferred (some [])) → Q .normal { a with defers := { target := .collected D, args := #[] } :: a.defers } W)
    (hstop : ∀ (D : Nat) (pre : List α) (W : World), w.heap.size ≤ D → Sp pre → Ix pre W → W.heap[D]? = some (.deferred (some [])) → (Code.exit ex).wpIn F n P Q { a with defers := { target := .collected D, args := #[] } :: a.defers } W) :
    (Code.rangeFunc g ps assign body).wpIn F n P Q a w := by
  refine wpIn_rangeFunc fun fn hfn => ?_
  rw [hro]
  obtain ⟨rec, hrec⟩ : ∃ rec : LoopState → Option Code → Loop, rec = fun st pe => { state := st, pending := pe, fn, tmps := a.tmps, params := ps, assign, body, defers := w.heap.size } := ⟨_, rfl⟩
  obtain ⟨V, hV⟩ : ∃ V, (w.alloc (.deferred (some []))).alloc (.loop (rec .ready none)) = V := ⟨_, rfl⟩
  have hl : V.heap[w.heap.size + 1]? = some (.loop (rec .ready none)) := by
    have := World.alloc_heap_new (w.alloc (.deferred (some []))) (.loop (rec .ready none))
    rw [World.size_alloc] at this
    rw [← hV]
    exact this
  have hk : V.heap[w.heap.size]? = some (.deferred (some [])) := by
    rw [← hV]
    exact (Below.heap_alloc _ _ _ (by simp)).trans (World.alloc_heap_new w _)
  have hi : I [] V := by rw [← hV]; exact hI.alloc _ (hI.alloc _ h0)
  have hb : Below w.heap.size w V := by rw [← hV]; exact ((Below.refl _ w).alloc (Nat.le_refl _) _).alloc (by simp) _
  refine ⟨w.heap.size + 1, [{ target := .collected w.heap.size, args := #[] }], V, { target := .fn (.func gf) lb, args := #[.func (.yield (w.heap.size + 1)) #[] #[]] }, V, gf, #[.func (.yield (w.heap.size + 1)) #[] #[]] ++ lb, V, ?_, ?_, ?_, ?_, fun _ => h1, ?_⟩
  · rw [← hV, hrec]; exact run_enterLoop_outer _ _ _ _ _
  · simp only [resolve, hg]
    simp [go_sem]
  · intro f' hf'; simp [Target.leads] at hf'; subst hf'; exact hFg
  · simp [invoke, go_sem, eg]
  refine (hseq (w.heap.size + 1) (fun pre W => I pre W ∧ W.heap[w.heap.size + 1]? = some (.loop (rec .ready none)) ∧ W.heap[w.heap.size]? = some (.deferred (some [])))
    (fun pre W => Ix pre W ∧ W.heap[w.heap.size + 1]? = some (.loop (rec .done (some (.exit ex)))) ∧ W.heap[w.heap.size]? = some (.deferred (some []))) V hb
    (fun s A B hs h => ⟨hIl s A B hs.1 h, later_keep h hs.2.1, later_keep h hs.2.2⟩) ?_ ⟨hi, hl, hk⟩).mono ?_
  · rintro pre x W ⟨ji, jl, jk⟩ hx
    have hlt : w.heap.size + 1 < W.heap.size := (Array.getElem?_eq_some_iff.1 jl).1
    have hy := run_yield (P := P) (args := encs x) jl (by rw [hrec]; exact hps x)
    rw [hrec] at hy
    refine ⟨fn, _, assign, body, hy, roundIn_of_wpIn hfn (hassign _ pre x W _ (by omega) ji hx fun a' W' hL hAx => ?_)⟩
    have pL : Kp W W' := hKl (by omega) hL
    replace ji := hIl _ _ _ ji hL
    replace jl := later_keep hL jl
    replace jk := later_keep hL jk
    replace hx := hXl _ _ _ _ hx hL
    replace hlt : w.heap.size + 1 < W'.heap.size := (Array.getElem?_eq_some_iff.1 jl).1
    refine ⟨_, run_beginRound jl (by rw [hrec]), ?_⟩
    obtain ⟨U, hU⟩ : ∃ U, W'.putObj (w.heap.size + 1) (.loop { rec .ready none with state := .busy }) = U := ⟨_, rfl⟩
    have l2 : U.heap[w.heap.size + 1]? = some (.loop { rec .ready none with state := .busy }) := by rw [← hU]; exact World.putObj_heap_same hlt
    have k2 : U.heap[w.heap.size]? = some (.deferred (some [])) := by rw [← hU]; exact (World.putObj_heap_other (by omega)).trans jk
    have p2 : Kp W U := by rw [← hU]; exact hKt pL (hKb _ _ _ _ (by omega) jl rfl rfl)
    have a2 : A x a' U := by rw [← hU]; exact hA _ _ _ _ _ _ (by omega) jl rfl hAx
    have i2 : I pre U := by rw [← hU]; exact hI.putObj _ ji (by omega) jl rfl
    have x2 : X pre x U := by rw [← hU]; exact hXb _ _ _ _ _ _ (by omega) jl rfl hx
    rw [hU]
    refine wpIn_mono (hbody _ pre x a' U i2 x2 a2) ?_
    have fin : ∀ (jump : Option Code) (Z : World), KeepsFrom w.heap.size U Z →
        (Instr.endRound (w.heap.size + 1) jump).run P Z = .ok (.bool jump.isNone) (Z.putObj (w.heap.size + 1) (.loop (rec (if jump.isNone then .ready else .done) jump))) ∧ Z.heap[w.heap.size + 1]? = some (.loop { rec .ready none with state := .busy }) ∧
        (Z.putObj (w.heap.size + 1) (.loop (rec (if jump.isNone then .ready else .done) jump))).heap[w.heap.size + 1]? = some (.loop (rec (if jump.isNone then .ready else .done) jump)) ∧
        (Z.putObj (w.heap.size + 1) (.loop (rec (if jump.isNone then .ready else .done) jump))).heap[w.heap.size]? = some (.deferred (some [])) := fun jump Z hZ => by
      have l3 := hZ.same _ _ (by omega) l2 rfl
      have r3 := run_endRound (P := P) jump l3
      rw [hrec] at r3 ⊢
      exact ⟨r3, by rw [hrec] at l3; exact l3, World.putObj_heap_same (Array.getElem?_eq_some_iff.1 l3).1, (World.putObj_heap_other (by omega)).trans (hZ.same _ _ (Nat.le_refl _) k2 rfl)⟩
    rintro e a3 Z hp
    cases e with
    | normal =>
      obtain ⟨hZ, hp3, hi3⟩ := hp
      obtain ⟨hr, l3, l4, k4⟩ := fin none Z hZ
      exact ⟨_, _, hr, .inl ⟨rfl, ⟨hI.putObj _ hi3 (by omega) l3 rfl, l4, k4⟩, hKt (hKt p2 hp3) (hKb _ _ _ _ (by omega) l3 rfl rfl)⟩⟩
    | ret => exact hp.elim
    | exit id =>
      obtain ⟨he, hZ, hi3⟩ := hp
      rw [he]
      obtain ⟨hr, l3, l4, k4⟩ := fin (some (.exit ex)) Z hZ
      exact ⟨_, _, hr, .inr ⟨rfl, hIx.putObj _ hi3 (by omega) l3 rfl, l4, k4⟩⟩
    | goto t => exact hp.elim
    | panic ch => exact hp.elim
    | outgrown => exact hp.elim
  · rintro e W2 ⟨⟨v, rfl⟩, (⟨xs, hS, ji, jl, jk⟩ | ⟨pre, hSp, ji, jl, jk⟩)⟩
    · exact ⟨none, _, by have := run_endLoop (P := P) jl (by rw [hrec]; simp); rw [hrec] at this; exact this, hdone _ xs _ (Nat.le_refl _) hS (hI.putObj _ ji (by omega) jl rfl) ((World.putObj_heap_other (by omega)).trans jk)⟩
    · exact ⟨some (.exit ex), _, by have := run_endLoop (P := P) jl (by rw [hrec]; simp); rw [hrec] at this; exact this, hstop _ pre _ (Nat.le_refl _) hSp (hIx.putObj _ ji (by omega) jl rfl) ((World.putObj_heap_other (by omega)).trans jk)⟩
end Go.Proofs.YtfnlakpjepjhbaaDoor

/- Package seqadj: parts from the last one; where a number goes. -/
namespace Go.Proofs.YtfnlakpjepjhbaaDoor
open Go.RowKit Go.Shelf
set_option maxRecDepth 100000
attribute [local go_sem] Oper.semAt_some
set_option linter.unusedVariables false
set_option linter.unusedSimpArgs false

theorem alloc3 (w : World) (A B C : Obj) : Later w (((w.alloc A).alloc B).alloc C) ∧ (((w.alloc A).alloc B).alloc C).heap[w.heap.size]? = some A ∧ (((w.alloc A).alloc B).alloc C).heap[w.heap.size + 1]? = some B ∧ (((w.alloc A).alloc B).alloc C).heap[w.heap.size + 1 + 1]? = some C := by
  have h1 : Later w ((w.alloc A).alloc B) := ((Below.refl _ _).alloc (Nat.le_refl _) _).alloc (by simp) _
  have h2 : ((w.alloc A).alloc B).heap[w.heap.size]? = some A := (Below.heap_alloc _ _ _ (by simp)).trans (heap_alloc_new w _)
  have h3 : ((w.alloc A).alloc B).heap[w.heap.size + 1]? = some B := by
    have := heap_alloc_new (w.alloc A) B
    rwa [World.size_alloc] at this
  refine ⟨h1.trans ((Below.refl _ _).alloc (Nat.le_refl _) _), (Below.heap_alloc _ _ _ (by simp <;> omega)).trans h2, (Below.heap_alloc _ _ _ (by simp)).trans h3, ?_⟩
  have := heap_alloc_new ((w.alloc A).alloc B) C
  simpa only [World.size_alloc] using this

def bhd (a b : Int) : Bool := decide (0 < ahd a b)
theorem behind_any (a b : Int) (w : World) : Calls Tryd.prog 41 #[.int .u32 a, .int .u32 b] w fun e w' => e = .returned (.bool (bhd a b)) ∧ w' = w := by
  have HA := hide (ahead_any a b w)
  unfold bhd
  generalize ahd a b = d at *
  go_enter Tryd.func41, Tryd.ntmps41
  go_wp2_with fail
  refine HA.out.mono ?_
  rintro e w1 ⟨rfl, rfl⟩
  go_wp2_with fail
  go_ret
  exact ⟨rfl, rfl⟩

set_option maxHeartbeats 4000000 in
theorem map1_any (p : Pa) (w : World) : Calls Tryd.prog 27 #[.agg (pac p).toArray] w fun e w' => e = .returned (.tuple #[.agg #[.int .u32 p.ws, .int .u32 p.we], .agg #[.int .u32 p.is, .int .u32 p.ie]]) ∧ Later w w' := by
  obtain ⟨lb0, c0, c1, c2⟩ := alloc3 w (.cells #[.int .u32 p.ws, .int .u32 p.we, .int .u32 p.is, .int .u32 p.ie, .slice p.ta p.tn p.tc] 64) (.cells #[.int .u32 0, .int .u32 0] 62) (.cells #[.int .u32 0, .int .u32 0] 62)
  unfold pac
  go_enter Tryd.func27, Tryd.ntmps27
  go_upto_region 1 with fail
  generalize ((w.alloc _).alloc _).alloc _ = w0 at *
  refine anyT_begin (R := But (fun g => g = w.heap.size + 1 ∨ g = w.heap.size + 1 + 1)) 6 rfl (by kernel_rfl) ?_
  have ld : Later w0 w0.drew := Later.drew w0
  have L0 := lb0.trans ld
  have d0 := later_keep ld c0
  have d1 := later_keep ld c1
  have d2 := later_keep ld c2
  generalize w0.drew = Wd at *
  have ha : ∀ v1, But (fun g => g = w.heap.size + 1 ∨ g = w.heap.size + 1 + 1) Wd v1 → ∀ j, v1.cell? ⟨w.heap.size, j, none⟩ = #[.int .u32 p.ws, .int .u32 p.we, .int .u32 p.is, .int .u32 p.ie, .slice p.ta p.tn p.tc][j]? := fun v1 hv => block_cell ((hv.block w.heap.size (Array.getElem?_eq_some_iff.1 d0).1 (by omega)).trans d0)
  refine anyT_val (But.pre _) 0 rfl (by kernel_rfl) (by kernel_rfl) (by kernel_rfl) (fun _ _ _ _ h => h) rfl ?_; apply Exists.intro; refine ⟨fun v1 hv1 => ?_, ?_⟩; (· (go_simp; rfl)); simp only [Act.put, List.setIfInBounds_toArray, List.set_cons_zero, List.set_cons_succ]
  refine anyT_val (But.pre _) 1 rfl (by kernel_rfl) (by kernel_rfl) (by kernel_rfl) (fun _ _ _ _ h => h) rfl ?_; apply Exists.intro; refine ⟨fun v1 hv1 => ?_, ?_⟩; (· (go_simp; rfl)); simp only [Act.put, List.setIfInBounds_toArray, List.set_cons_zero, List.set_cons_succ]
  refine anyT_val (But.pre _) 2 rfl (by kernel_rfl) (by kernel_rfl) (by kernel_rfl) (fun _ _ _ _ h => h) rfl ?_; apply Exists.intro; refine ⟨fun v1 hv1 => ?_, ?_⟩; (· (go_simp; rfl)); simp only [Act.put, List.setIfInBounds_toArray, List.set_cons_zero, List.set_cons_succ]
  refine anyT_val (But.pre _) 3 rfl (by kernel_rfl) (by kernel_rfl) (by kernel_rfl) (fun _ _ _ _ h => h) rfl ?_; apply Exists.intro; refine ⟨fun v1 hv1 => ?_, ?_⟩; (· (go_simp; rfl)); simp only [Act.put, List.setIfInBounds_toArray, List.set_cons_zero, List.set_cons_succ]
  clear ha
  refine anyT_one 4 rfl (by kernel_rfl) rfl ?_
  have k1 := block_cell d1
  have f1 := block_frozen d1
  unfold Oper.wp
  go_simp
  have hb1 : But (fun g => g = w.heap.size + 1) Wd (putRow Wd (w.heap.size + 1) 0 [.int .u32 p.ws, .int .u32 p.we]) := putRow_rb (rb := w.heap.size + 1) _ Wd
  have e1 := putRow_all [.int .u32 p.ws, .int .u32 p.we] d1 rfl
  change But _ _ (putRow Wd (w.heap.size + 1) 0 [.int .u32 p.ws, .int .u32 p.we]) ∧ _
  refine ⟨⟨hb1.os, hb1.tape, hb1.output, hb1.size, fun k hk he => hb1.block k hk (fun e => he (.inl e))⟩, ?_⟩
  have e2 := (hb1.block (w.heap.size + 1 + 1) (Array.getElem?_eq_some_iff.1 d2).1 (by omega)).trans d2
  change wpAnyT _ _ _ _ _ _ _ _ (putRow Wd (w.heap.size + 1) 0 [.int .u32 p.ws, .int .u32 p.we])
  generalize putRow Wd (w.heap.size + 1) 0 [.int .u32 p.ws, .int .u32 p.we] = W1 at *
  refine anyT_one 5 rfl (by kernel_rfl) rfl ?_
  clear k1 f1
  have k2 := block_cell e2
  have f2 := block_frozen e2
  unfold Oper.wp
  go_simp
  have hb2 : But (fun g => g = w.heap.size + 1 + 1) W1 (putRow W1 (w.heap.size + 1 + 1) 0 [.int .u32 p.is, .int .u32 p.ie]) := putRow_rb (rb := w.heap.size + 1 + 1) _ W1
  have g2 := putRow_all [.int .u32 p.is, .int .u32 p.ie] e2 rfl
  change But _ _ (putRow W1 (w.heap.size + 1 + 1) 0 [.int .u32 p.is, .int .u32 p.ie]) ∧ _
  refine ⟨⟨hb2.os, hb2.tape, hb2.output, hb2.size, fun k hk he => hb2.block k hk (fun e => he (.inr e))⟩, ?_⟩
  have g1 := (hb2.block (w.heap.size + 1) (Array.getElem?_eq_some_iff.1 e1).1 (by omega)).trans e1
  change wpAnyT _ _ _ _ _ _ _ _ (putRow W1 (w.heap.size + 1 + 1) 0 [.int .u32 p.is, .int .u32 p.ie])
  have hsz := L0.size
  have hs1 := hb1.size
  have LL : Below w.heap.size w (putRow W1 (w.heap.size + 1 + 1) 0 [.int .u32 p.is, .int .u32 p.ie]) := Below.trans L0 ((hb1.below hsz (fun k hk e => by omega)).trans (hb2.below (by omega) (fun k hk e => by omega)))
  generalize putRow W1 (w.heap.size + 1 + 1) 0 [.int .u32 p.is, .int .u32 p.ie] = W2 at *
  refine anyT_done (by kernel_rfl) ?_
  clear k2 f2
  have j1 := block_cell g1
  have j2 := block_cell g2
  go_wp2_with fail
  refine bodyPost_ret (v := .tuple #[.agg #[.int .u32 p.ws, .int .u32 p.we], .agg #[.int .u32 p.is, .int .u32 p.ie]]) (by simp [results, Tryd.results27, go_sem, j1, j2]) rfl ⟨rfl, LL⟩

theorem fromLast_in (n : Nat) (p : Option Addr) (w : World) :
    CallsIn Fence.wide n Tryd.prog 40 #[.pointer p] w fun e w' => e = .returned (.func (.func 54) #[] #[.pointer (some ⟨w.heap.size, 0, none⟩)]) ∧ w' = w.alloc (.cells #[.pointer p] 35) := by
  refine callsIn_of_wp Tryd.func40 rfl trivial ?_ rfl
  simp only [Tryd.ntmps40, List.size_toArray, List.length_cons, List.length_nil, Nat.reduceAdd, Nat.reduceSub, Array.replicate_succ, Array.replicate_zero, List.push_toArray, List.append_toArray, List.nil_append, List.cons_append]
  gi_wp2
  go_ret
  exact ⟨rfl, rfl⟩

def encP (r : Pa) : Array Value := #[.agg (pac r).toArray]
def XP (l : List Pa) (pre : List Pa) (x : Pa) (_V : World) : Prop := ∃ rest, pre ++ x :: rest = l

set_option maxRecDepth 100000 in
set_option maxHeartbeats 4000000 in
theorem fromLast1_in (n : Nat) (hn : 1 ≤ n) (l B b n₀ : Nat) (v : Value) (ls : List Pa) (J Jx : List Pa → World → Prop) (hlen : ls.length ≤ 1000)
    (hY : ∀ pre x V, J pre V → XP ls.reverse pre x V → YieldAt Fence.wide (n - 1) Tryd.prog l (encP x) V fun e V' => (e = .returned (.bool true) ∧ J (pre ++ [x]) V' ∧ Below n₀ V V') ∨ (e = .returned (.bool false) ∧ Jx (pre ++ [x]) V'))
    (W : World) (hB : W.cell? ⟨B, 0, none⟩ = some (.pointer (some ⟨b, 0, none⟩))) (hBn : B < n₀) (hbn : b < n₀) (hc : W.cell? ⟨b, 0, none⟩ = some v) (hR : RdP n₀ W v ls) (h0 : J [] W) :
    CallsIn Fence.wide n Tryd.prog 54 #[.func (.yield l) #[] #[], .pointer (some ⟨B, 0, none⟩)] W fun e W' => (∃ v, e = .returned v) ∧ ((∃ xs, xs = ls.reverse ∧ J xs W') ∨ (∃ pre, (∃ rest, pre ++ rest = ls.reverse) ∧ Jx pre W')) := by
  obtain ⟨sa, cap, rfl, hc1, hc2⟩ := hR.slice
  have HR := hide hR
  have hli : (ls.length : Int) ≤ 1000 := by omega
  have HB := hide hB
  have HC := hide hc
  clear hR
  refine callsIn_of_wp Tryd.func54 rfl trivial ?_ rfl
  simp only [Tryd.ntmps54, List.size_toArray, List.length_cons, List.length_nil, Nat.reduceAdd, Nat.reduceSub, Array.replicate_succ, Array.replicate_zero, List.push_toArray, List.append_toArray, List.nil_append, List.cons_append]
  gi_wp2
  gi_loopw [3] (fun i wx => ∃ k : Nat, k ≤ ls.length ∧ i = .int .i64 ((ls.length : Int) - 1 - (k : Int)) ∧ J (ls.reverse.take k) wx ∧ Below n₀ W wx) (fun i _ => ((intOf i) + 1).toNat)
  case atStart => exact ⟨0, by omega, by simp, by rw [List.take_zero]; exact h0, Below.refl _ _⟩
  case round =>
    obtain ⟨k, hk, rfl, hJk, hbk⟩ := hrel
    have hBr := (hbk.cell (p := ⟨B, 0, none⟩) hBn).trans HB.out
    have hcr := (hbk.cell (p := ⟨b, 0, none⟩) hbn).trans HC.out
    clear hB hc
    by_cases hkl : k < ls.length
    · have hq : ls.length - 1 - k < ls.length := by omega
      have hqi : (ls.length : Int) - 1 - (k : Int) = ((ls.length - 1 - k : Nat) : Int) := by omega
      obtain ⟨g, off, cp, e, _, _, hgn, hcs⟩ := (HR.out.below hbk).cells (by omega)
      simp at e
      obtain ⟨rfl, rfl⟩ := e
      have c0 := hcs (ls.length - 1 - k) hq 0 (by omega)
      have c1 := hcs (ls.length - 1 - k) hq 1 (by omega)
      have c2 := hcs (ls.length - 1 - k) hq 2 (by omega)
      have c3 := hcs (ls.length - 1 - k) hq 3 (by omega)
      have c4 := hcs (ls.length - 1 - k) hq 4 (by omega)
      have hrk : k < ls.reverse.length := by simpa using hkl
      have hre : ls.reverse[k] = ls[ls.length - 1 - k] := by rw [List.getElem_reverse]
      have hat : ∃ rest, ls.reverse.take k ++ ls.reverse[k] :: rest = ls.reverse := ⟨ls.reverse.drop (k + 1), by rw [← List.drop_eq_getElem_cons hrk, List.take_append_drop]⟩
      have htk : ls.reverse.take (k + 1) = ls.reverse.take k ++ [ls.reverse[k]] := (List.take_append_getElem hrk).symm
      have htl : ∃ rest, ls.reverse.take k ++ [ls.reverse[k]] ++ rest = ls.reverse := ⟨ls.reverse.drop (k + 1), by rw [List.take_append_getElem hrk, List.take_append_drop]⟩
      rw [hre] at hat htk htl
      rw [hqi]
      clear hcs hre
      generalize ls[ls.length - 1 - k] = r at *
      have HAT := hide hat
      have HTK := hide htk
      have HTL := hide htl
      clear hat htk htl
      generalize hqq : ls.length - 1 - k = q at *
      have hq' : (q : Int) < ls.length := by omega
      simp only [pac, List.getElem?_cons_zero, List.getElem?_cons_succ, Nat.add_zero] at c0 c1 c2 c3 c4
      obtain ⟨fn, tmps, assign, body, hy, hRr⟩ := hY _ r _ hJk HAT.out
      dsimp only [encP, pac] at hy
      gi_wp2
      refine hRr.mono ?_
      rintro e W3 (⟨rfl, hJ3, hk3⟩ | ⟨rfl, hJx3⟩)
      · gi_wp2
        go_roundw
        case rel => exact ⟨k + 1, by omega, by (congr 1; omega), by rw [HTK.out]; exact hJ3, hbk.trans hk3⟩
        case measure => first | (simp [intOf]; done) | (simp [intOf]; omega)
      · gi_wp2
        refine bodyPost_ret (results_none rfl _ _ _) rfl ?_
        exact ⟨⟨_, rfl⟩, .inr ⟨_, HTL.out, hJx3⟩⟩
    · obtain rfl : k = ls.length := by omega
      have hneg : (ls.length : Int) - 1 - (ls.length : Int) = -1 := by omega
      rw [hneg]
      gi_wp2
      go_end0
      exact ⟨⟨_, rfl⟩, .inl ⟨_, rfl, by rw [← List.length_reverse, List.take_length] at hJk; exact hJk⟩⟩
end Go.Proofs.YtfnlakpjepjhbaaDoor

/- Package seqadj: across, Map, Unmap. -/
namespace Go.Proofs.YtfnlakpjepjhbaaDoor
open Go.RowKit Go.Shelf
set_option maxRecDepth 100000
attribute [local go_sem] Oper.semAt_some
set_option linter.unusedVariables false
set_option linter.unusedSimpArgs false

theorem fromLast_gen (n : Nat) (hn : 1 ≤ n) (B base b : Nat) (v : Value) (ls : List Pa) (w0 w : World) (hT : SL 57 base w0 b v ls) (hlen : ls.length ≤ 1000) (hw : Later w0 w) (n₀ : Nat) (hn0 : w0.heap.size ≤ n₀) (hnw : n₀ ≤ w.heap.size) (hBl : B < n₀) (hB : w.cell? ⟨B, 0, none⟩ = some (.pointer (some ⟨b, 0, none⟩))) :
    GenX Fence.wide n Tryd.prog 54 #[.pointer (some ⟨B, 0, none⟩)] encP (Below n₀) (XP ls.reverse) (fun xs => xs = ls.reverse) (fun pre => ∃ rest, pre ++ rest = ls.reverse) w := fun l J Jx W hW hJ hY h0 => by
  have hwW : Later w0 W := hw.trans hW
  have hBW := (hW.cell (p := ⟨B, 0, none⟩) (show B < w.heap.size by omega)).trans hB
  have hb := hT.blt
  exact fromLast1_in n hn l B b n₀ v ls J Jx hlen hY W hBW hBl (by omega) ((block_cell (hT.later hwW).2.1 0).trans rfl) (((ownP_rd hT.2.2).below hwW).mono hn0) h0

def CT (A B : World) : Prop := A.heap.size ≤ B.heap.size ∧ ∀ (k : Nat) (o : Obj), A.heap[k]? = some o → o.isCells = true → B.heap[k]? = some o
theorem CT.of {A B : World} (h : Later A B) : CT A B := ⟨h.size, fun k o ho _ => later_keep h ho⟩
theorem CT.row {A B : World} {row : Option Nat} (hg : A.grownBy B row) (hr : ∀ r, row = some r → ∃ o : Obj, A.heap[r]? = some o ∧ o.isCells = false) : CT A B :=
  ⟨hg.size, fun k o ho hc => (hg.block k (Array.getElem?_eq_some_iff.1 ho).1 (fun e => by obtain ⟨o', h1, h2⟩ := hr k e.symm; rw [ho] at h1; cases h1; rw [hc] at h2; cases h2)).trans ho⟩
theorem CT.put {A : World} {l : Nat} {o o' : Obj} (h : A.heap[l]? = some o) (hc : o.isCells = false) : CT A (A.putObj l o') :=
  CT.row (grownBy_putObj' A l o') (fun r e => by cases e; exact ⟨o, h, hc⟩)

/-- Where a number goes, by parts of which the last one comes first. -/
def acr (fs fe ts te : Pa → Int) (n : Int) : List Pa → Int
  | [] => n
  | p :: l => if bhd (fs p) n then acr fs fe ts te n l else if bhd (fe p) n then ts p else (n + (te p - fe p)) % 4294967296
theorem acr_end {fs fe ts te : Pa → Int} {n : Int} : ∀ (l : List Pa), (∀ p ∈ l, bhd (fs p) n = true) → acr fs fe ts te n l = n
  | [], _ => rfl
  | p :: l, h => by unfold acr; rw [if_pos (h p (by simp))]; exact acr_end l (fun q hq => h q (by simp [hq]))
theorem acr_at {fs fe ts te : Pa → Int} {n : Int} (x : Pa) (rest : List Pa) (hx : bhd (fs x) n = false) : ∀ (pre : List Pa), (∀ p ∈ pre, bhd (fs p) n = true) → acr fs fe ts te n (pre ++ [x] ++ rest) = if bhd (fe x) n then ts x else (n + (te x - fe x)) % 4294967296
  | [], _ => by show acr fs fe ts te n (x :: rest) = _; unfold acr; rw [hx]; simp
  | p :: pre, h => by
    show acr fs fe ts te n (p :: (pre ++ [x] ++ rest)) = _
    unfold acr
    rw [if_pos (h p (by simp))]
    exact acr_at x rest hx pre (fun q hq => h q (by simp [hq]))

/-- What across keeps while it looks. -/
def AI (rb : Nat) (n : Int) (cv : Value) (fs : Pa → Int) (pre : List Pa) (W : World) : Prop :=
  (W.heap[rb]? = some (.cells #[.int .u32 n] 22 (0, 0)) ∧ W.heap[rb + 1]? = some (.cells #[cv] 66 (0, 0)) ∧ W.heap[rb + 1 + 1]? = some (.cells #[.int .u32 n] 22 (0, 0))) ∧ ∀ p ∈ pre, bhd (fs p) n = true
theorem AI.ct {rb : Nat} {n : Int} {cv : Value} {fs : Pa → Int} {pre : List Pa} {A B : World} (h : AI rb n cv fs pre A) (c : CT A B) : AI rb n cv fs pre B := ⟨⟨c.2 _ _ h.1.1 rfl, c.2 _ _ h.1.2.1 rfl, c.2 _ _ h.1.2.2 rfl⟩, h.2⟩
/-- How it leaves when it has found. -/
def AX (rb : Nat) (n : Int) (fs fe ts te : Pa → Int) (pre : List Pa) (W : World) : Prop :=
  ∃ pre0 x, pre = pre0 ++ [x] ∧ bhd (fs x) n = false ∧ (∀ p ∈ pre0, bhd (fs p) n = true) ∧ W.heap[rb + 1 + 1]? = some (.cells #[.int .u32 (if bhd (fe x) n then ts x else (n + (te x - fe x)) % 4294967296)] 22 (0, 0))
theorem AX.ct {rb : Nat} {n : Int} {fs fe ts te : Pa → Int} {pre : List Pa} {A B : World} (h : AX rb n fs fe ts te pre A) (c : CT A B) : AX rb n fs fe ts te pre B := by
  obtain ⟨pre0, x, h1, h2, h3, h4⟩ := h
  exact ⟨pre0, x, h1, h2, h3, c.2 _ _ h4 rfl⟩

set_option maxRecDepth 100000 in
set_option maxHeartbeats 8000000 in
theorem across_any (base b cf : Nat) (v : Value) (ls : List Pa) (fs fe ts te : Pa → Int) (n : Int) (hn : 0 ≤ n ∧ n ≤ 4294967295) (w : World) (hT : SL 57 base w b v ls) (hlen : ls.length ≤ 1000)
    (eg : ∀ args w, (callFunc cf args).run Tryd.prog w = .ok (.enter cf args) w)
    (hcl : ∀ p W, Calls Tryd.prog cf #[.agg (pac p).toArray] W fun e W' => e = .returned (.tuple #[.agg #[.int .u32 (fs p), .int .u32 (fe p)], .agg #[.int .u32 (ts p), .int .u32 (te p)]]) ∧ Later W W') :
    Calls Tryd.prog 26 #[.pointer (some ⟨b, 0, none⟩), .int .u32 n, .func (.func cf) #[] #[]] w fun e w' => e = .returned (.int .u32 (acr fs fe ts te n ls.reverse)) ∧ Later w w' := by
  refine (callsIn_wide (n := 5)).1 ?_
  refine callsIn_of_wp_marks Tryd.func26 rfl trivial ?_ rfl
  simp only [Tryd.ntmps26, List.size_toArray, List.length_cons, List.length_nil, Nat.reduceAdd, Nat.reduceSub, Array.replicate_succ, Array.replicate_zero, List.push_toArray, List.append_toArray, List.nil_append, List.cons_append]
  gi_wp2
  refine wpIn_wide.2 (wp_scope_straight ((wpIn_wide (n := 5)).1 ?_))
  gi_wp2
  obtain ⟨lb3, c0, c1, c2⟩ := alloc3 w (.cells #[.int .u32 n] 22) (.cells #[.func (.func cf) #[] #[]] 66) (.cells #[.int .u32 n] 22)
  have hs3 : (((w.alloc (.cells #[.int .u32 n] 22)).alloc (.cells #[.func (.func cf) #[] #[]] 66)).alloc (.cells #[.int .u32 n] 22)).heap.size = w.heap.size + 1 + 1 + 1 := by simp
  generalize ((w.alloc _).alloc _).alloc _ = w3 at *
  have la : Later w3 (w3.alloc (.cells #[.pointer (some ⟨b, 0, none⟩)] 35)) := (Below.refl _ _).alloc (Nat.le_refl _) _
  have c3 := heap_alloc_new w3 (.cells #[.pointer (some ⟨b, 0, none⟩)] 35)
  have hs4 : (w3.alloc (.cells #[.pointer (some ⟨b, 0, none⟩)] 35)).heap.size = w3.heap.size + 1 := by simp
  refine wpIn_label ?_
  have HCL := hide hcl
  have HEG := hide eg
  clear hcl eg
  gi_wp2_with (refine ⟨trivial, ?_⟩; gi_at_call 40; refine (fromLast_in _ _ _).mono ?_; rintro e w' ⟨rfl, rfl⟩)
  generalize w3.alloc _ = w4 at *
  rw [hs3] at c3 hs4
  have hb4 : Later w w4 := lb3.trans la
  have d0 := later_keep la c0
  have d1 := later_keep la c1
  have d2 := later_keep la c2
  refine wpIn_rangeZ 0 (w := w4) rfl (by omega) (gf := 54) (lb := #[.pointer (some ⟨w.heap.size + 1 + 1 + 1, 0, none⟩)]) rfl trivial (enters_of Tryd.func54 (by kernel_rfl) rfl)
    (fromLast_gen 4 (by omega) (w.heap.size + 1 + 1 + 1) base b v ls w w4 hT hlen hb4 w4.heap.size (by omega) (Nat.le_refl _) (by omega) ((block_cell c3 0).trans rfl))
    (fun h k => h.trans k) (fun W l o o' hl ho hc hw => belowK_b (w := w4) (Nat.le_refl _) W l o o' hl ho hc hw) (fun hA hL => hL.mono hA) (fun _ _ _ _ h _ => h) (fun _ _ _ _ _ _ _ _ _ h => h) (fun _ => rfl)
    (fun pre W => AI w.heap.size n (.func (.func cf) #[] #[]) fs pre W ∧ Below w.heap.size w W) (fun pre W => AX w.heap.size n fs fe ts te pre W ∧ Below w.heap.size w W)
    (OwnFrom.and (fun s A B row hs hg hr => hs.ct (CT.row hg (fun r e => (hr r e).2))) (ownFrom_below (Nat.le_refl _) (by omega)))
    (fun s A B h l => ⟨h.1.ct (CT.of l), h.2.trans (l.mono h.2.size)⟩)
    (OwnFrom.and (fun s A B row hs hg hr => hs.ct (CT.row hg (fun r e => (hr r e).2))) (ownFrom_below (Nat.le_refl _) (by omega)))
    ⟨⟨⟨d0, d1, d2⟩, fun x hx => by cases hx⟩, hb4⟩
    (fun x a' W => ∃ bx : Nat, w.heap.size + 1 + 1 + 1 + 1 ≤ bx ∧ W.heap[bx]? = some (.cells #[.int .u32 x.ws, .int .u32 x.we, .int .u32 x.is, .int .u32 x.ie, .slice x.ta x.tn x.tc] 64 (0, 0)) ∧ a' = { tmps := #[.pointer (some ⟨b, 0, none⟩), .int .u32 n, .func (.func cf) #[] #[], undef, .pointer (some ⟨w.heap.size, 0, none⟩), .pointer (some ⟨w.heap.size + 1, 0, none⟩), .int .u32 0, .pointer (some ⟨w.heap.size + 1 + 1, 0, none⟩), .pointer (some ⟨bx, 0, none⟩), undef, undef, .pointer (some ⟨b, 0, none⟩), .bool false, .int .u32 n, .pointer (some ⟨b, 0, none⟩), .func (.func 54) #[] #[.pointer (some ⟨w.heap.size + 1 + 1 + 1, 0, none⟩)], .agg #[.int .u32 x.ws, .int .u32 x.we, .int .u32 x.is, .int .u32 x.ie, .slice x.ta x.tn x.tc], undef, undef, undef, undef, undef, undef, undef, undef, undef, undef, undef, undef, undef, undef, undef, undef, undef, undef, undef, undef, undef, undef, undef, undef, undef, undef], defers := [] })
    (fun x a' W l o o' hl ho hc h => by obtain ⟨bx, h1, h2, h3⟩ := h; exact ⟨bx, h1, (CT.put ho hc).2 _ _ h2 rfl, h3⟩) ?assign ?body ?done ?stop
  case assign =>
    rintro l pre x W K hsz _ hX hK
    dsimp only [encP, pac]
    gi_wp2
    refine hK _ _ ?_ ⟨W.heap.size, by omega, heap_alloc_new _ _, rfl⟩
    exact (Below.refl _ W).alloc (Nat.le_refl _) _
  case body =>
    rintro l pre x a' W ⟨⟨⟨h0, h1, h2⟩, hno⟩, hbW⟩ hX ⟨bx, hbx, hbo, rfl⟩
    have hc := (callsIn_wide (n := 2)).2 (HCL.out x W)
    have HC := hide (hc.inRound l)
    clear hc
    have Kb := block_cell hbo
    have K0 := block_cell h0
    have K1 := block_cell h1
    gi_wp2
    refine ⟨trivial, ?_⟩
    rw [HEG.out]
    simp only [Oper.uponIn]
    clear Kb K0 K1
    refine ⟨fun _ => by omega, HC.out.mono ?_⟩
    rintro e W1 ⟨rfl, l1⟩
    have hbW1 := hbW.trans (l1.mono hbW.size)
    have g0 := later_keep l1 h0
    have g1 := later_keep l1 h1
    have g2 := later_keep l1 h2
    have HBH := hide (fun W a => ((callsIn_wide (n := 2)).2 (behind_any a n W)).inRound l)
    have lq : Later W1 ((W1.alloc (.cells #[.int .u32 (fs x), .int .u32 (fe x)] 62)).alloc (.cells #[.int .u32 (ts x), .int .u32 (te x)] 62)) := ((Below.refl _ _).alloc (Nat.le_refl _) _).alloc (by simp) _
    have q0 : ((W1.alloc (.cells #[.int .u32 (fs x), .int .u32 (fe x)] 62)).alloc (.cells #[.int .u32 (ts x), .int .u32 (te x)] 62)).heap[W1.heap.size]? = some (.cells #[.int .u32 (fs x), .int .u32 (fe x)] 62) := (Below.heap_alloc _ _ _ (by simp)).trans (heap_alloc_new W1 _)
    have q1 : ((W1.alloc (.cells #[.int .u32 (fs x), .int .u32 (fe x)] 62)).alloc (.cells #[.int .u32 (ts x), .int .u32 (te x)] 62)).heap[W1.heap.size + 1]? = some (.cells #[.int .u32 (ts x), .int .u32 (te x)] 62) := by
      have := heap_alloc_new (W1.alloc (.cells #[.int .u32 (fs x), .int .u32 (fe x)] 62)) (.cells #[.int .u32 (ts x), .int .u32 (te x)] 62)
      rwa [World.size_alloc] at this
    have r0 := later_keep lq g0
    have r1 := later_keep lq g1
    have r2 := later_keep lq g2
    have k0 := block_cell q0
    have k1 := block_cell q1
    have k2 := block_cell r0
    have k3 := block_cell r2
    have f3 := block_frozen r2
    have L2 : Later W _ := l1.trans lq
    have hsz4 : w.heap.size + 1 + 1 < w4.heap.size := by omega
    have HLS := hide (show w.heap.size + 1 + 1 < W1.heap.size from (Array.getElem?_eq_some_iff.1 g2).1)
    gi_wp2
    generalize (W1.alloc _).alloc _ = W2 at *
    refine ⟨trivial, (HBH.out W2 (fs x)).mono ?_⟩
    rintro e W3 ⟨rfl, rfl⟩
    have hbW2 : Below w.heap.size w W3 := hbW1.trans (lq.mono hbW1.size)
    have hk2 : KeepsFrom w4.heap.size W W3 := ⟨L2.size, fun i o hi ho hc => later_keep L2 ho⟩
    have fin : ∀ (z : Value), KeepsFrom w4.heap.size W (W3.setCell ⟨w.heap.size + 1 + 1, 0, none⟩ z) ∧ (W3.setCell ⟨w.heap.size + 1 + 1, 0, none⟩ z).heap[w.heap.size + 1 + 1]? = some (.cells #[z] 22 (0, 0)) ∧ Below w.heap.size w (W3.setCell ⟨w.heap.size + 1 + 1, 0, none⟩ z) := fun z => by
      have hbz : But (fun g => g = w.heap.size + 1 + 1) W3 (W3.setCell ⟨w.heap.size + 1 + 1, 0, none⟩ z) := (But.refl (fun g => g = w.heap.size + 1 + 1) _).setCell (p := ⟨w.heap.size + 1 + 1, 0, none⟩) rfl _
      refine ⟨⟨Nat.le_trans L2.size hbz.size, fun i o hi ho hc => ?_⟩, by simpa using heap_set1 r2 0 z, hbW2.trans (hbz.below hbW2.size (fun k hk e => by omega))⟩
      have h5 := later_keep L2 ho
      exact (hbz.block i (Array.getElem?_eq_some_iff.1 h5).1 (by omega)).trans h5
    have FIN := hide fin
    clear fin
    cases hq : bhd (fs x) n with
    | true =>
      have HQ := hide hq
      clear hq
      gi_wp2
      exact ⟨hk2, L2.mono (by have := (Array.getElem?_eq_some_iff.1 hbo).1; omega), ⟨⟨r0, r1, r2⟩, fun y hy => (List.mem_append.1 hy).elim (hno y) (fun h => by rw [show y = x from by simpa using h]; exact HQ.out)⟩, hbW2⟩
    | false =>
      have HQ := hide hq
      clear hq
      gi_wp2
      refine ⟨trivial, (HBH.out W3 (fe x)).mono ?_⟩
      rintro e W4 ⟨rfl, rfl⟩
      cases hq2 : bhd (fe x) n with
      | true =>
        have HQ2 := hide hq2
        clear hq2
        gi_wp2
        exact ⟨rfl, (FIN.out _).1, ⟨pre, x, rfl, HQ.out, hno, by rw [HQ2.out]; exact (FIN.out _).2.1⟩, (FIN.out _).2.2⟩
      | false =>
        have HQ2 := hide hq2
        clear hq2
        gi_wp2
        refine ⟨rfl, (FIN.out _).1, ⟨pre, x, rfl, HQ.out, hno, ?_⟩, (FIN.out _).2.2⟩
        rw [HQ2.out]
        refine (FIN.out _).2.1.trans ?_
        first | (simp; done) | (simp; omega)
  case done =>
    rintro D xs W hD rfl ⟨⟨⟨h0, h1, h2⟩, hno⟩, hbW⟩ hK
    have K2 := block_cell h2
    have hres := acr_end (fs := fs) (fe := fe) (ts := ts) (te := te) ls.reverse hno
    have HRES := hide hres
    clear hres
    gi_wp2
    refine ⟨by simp, .inl ⟨_, _, rfl, run_takeDeferred hK, ?_⟩⟩
    exact ⟨.int .u32 n, by simp [results, Tryd.results26, go_sem], by rw [HRES.out], hbW.trans (belowK_b (w := w) (Nat.le_refl _) W D _ _ (by omega) hK rfl rfl)⟩
  case stop =>
    rintro D pre W hD ⟨rest, hrest⟩ ⟨⟨pre0, x, rfl, hpx, hp0, h2⟩, hbW⟩ hK
    have hres := acr_at (fe := fe) (ts := ts) (te := te) x rest hpx pre0 hp0
    rw [hrest] at hres
    rw [← hres] at h2
    clear hres
    generalize hz : acr fs fe ts te n ls.reverse = z at *
    have HZ := hide hz
    clear hz
    have K2 := block_cell h2
    gi_wp2
    refine ⟨by simp, .inl ⟨_, _, rfl, run_takeDeferred hK, ?_⟩⟩
    exact ⟨.int .u32 z, by simp [results, Tryd.results26, go_sem], by rw [HZ.out], hbW.trans (belowK_b (w := w) (Nat.le_refl _) W D _ _ (by omega) hK rfl rfl)⟩
end Go.Proofs.YtfnlakpjepjhbaaDoor

/- Package seqadj: New, Len, Map, Unmap, what Add asks. -/
namespace Go.Proofs.YtfnlakpjepjhbaaDoor
open Go.RowKit Go.Shelf
set_option maxRecDepth 100000
set_option linter.unusedVariables false
set_option linter.unusedSimpArgs false

def mapS (l : List Pa) (n : Int) : Int := acr Pa.ws Pa.we Pa.is Pa.ie n l.reverse
def unmS (l : List Pa) (n : Int) : Int := acr Pa.is Pa.ie Pa.ws Pa.we n l.reverse

theorem smap_any (base b : Nat) (v : Value) (ls : List Pa) (n : Int) (hn : 0 ≤ n ∧ n ≤ 4294967295) (w : World) (hT : SL 57 base w b v ls) (hlen : ls.length ≤ 1000) :
    Calls Tryd.prog 9 #[.pointer (some ⟨b, 0, none⟩), .int .u32 n] w fun e w' => e = .returned (.int .u32 (mapS ls n)) ∧ Later w w' := by
  have HA := hide (across_any base b 27 v ls Pa.ws Pa.we Pa.is Pa.ie n hn w hT hlen (enters_of Tryd.func27 (by kernel_rfl) rfl) (fun p W => map1_any p W))
  unfold mapS
  generalize acr Pa.ws Pa.we Pa.is Pa.ie n ls.reverse = z at *
  go_enter Tryd.func9, Tryd.ntmps9
  go_wp2_with fail
  refine HA.out.mono ?_
  rintro e w1 ⟨rfl, l1⟩
  go_wp2_with fail
  go_ret
  exact ⟨rfl, l1⟩

theorem snew_any (w : World) : Calls Tryd.prog 7 #[] w fun e w' => e = .returned (.pointer (some ⟨w.heap.size, 0, none⟩)) ∧ Later w w' ∧ SL 57 w.heap.size w' w.heap.size (.slice none 0 0) [] := by
  have la : Later w (w.alloc (.cells #[.slice none 0 0] 57)) := (Below.refl _ _).alloc (Nat.le_refl _) _
  have hn := heap_alloc_new w (.cells #[.slice none 0 0] 57)
  go_enter Tryd.func7, Tryd.ntmps7
  go_wp2_with fail
  go_ret
  exact ⟨rfl, la, Nat.le_refl _, hn, rfl, .inl ⟨rfl, rfl⟩⟩

def okN (n : Int) : Bool := decide (1 ≤ n) && decide (n ≤ 128)
theorem mayBe_any (n : Int) (w : World) : Calls Tryd.prog 23 #[.int .i64 n] w fun e w' => e = .returned (.bool (okN n)) ∧ w' = w := by
  unfold okN
  go_enter Tryd.func23, Tryd.ntmps23
  by_cases h : 1 ≤ n
  · go_wp2_with fail
    go_ret
    exact ⟨by simp [h], rfl⟩
  · go_wp2_with fail
    go_ret
    exact ⟨by first | (simp [h]; done) | (simp [h]; omega), rfl⟩

/-- The last part. -/
def lstP (l : List Pa) : Pa := l.getLast?.getD zPa
def pssd (l : List Pa) (s : Int) : Bool := !l.isEmpty && decide (ahd s (lstP l).we < 0)
def shf (l : List Pa) : Int := if l.isEmpty then 0 else ((lstP l).ie - (lstP l).we) % 4294967296
theorem lstP_at {l : List Pa} (h : 0 < l.length) : lstP l = l[l.length - 1]'(by omega) := by
  unfold lstP
  rw [List.getLast?_eq_getElem?, List.getElem?_eq_getElem (by omega)]
  rfl

set_option maxHeartbeats 2000000 in
theorem passed_any (base b : Nat) (v : Value) (l : List Pa) (s : Int) (w : World) (hT : SL 57 base w b v l) (hl : l.length ≤ 1000) :
    Calls Tryd.prog 24 #[.pointer (some ⟨b, 0, none⟩), .int .u32 s] w fun e w' => e = .returned (.bool (pssd l s)) ∧ w' = w := by
  have k0 := block_cell hT.2.1
  have hli : (l.length : Int) ≤ 1000 := by omega
  obtain ⟨av, cv, rfl, _, _⟩ := (ownP_rd hT.2.2).slice
  have hcase : l = [] ∨ 0 < l.length := by cases l <;> simp
  rcases hcase with rfl | hpos
  · go_enter Tryd.func24, Tryd.ntmps24
    go_wp2_with fail
    go_ret
    exact ⟨rfl, rfl⟩
  · have hpos' : (0 : Int) < l.length := by omega
    obtain ⟨g, off, cp, e, _, _, hgn, hcs⟩ := (ownP_rd hT.2.2).cells hpos
    simp at e
    obtain ⟨rfl, rfl⟩ := e
    have c1 := hcs (l.length - 1) (by omega) 1 (by omega)
    have hv : pssd l s = decide (ahd s (l[l.length - 1]'(by omega)).we < 0) := by
      unfold pssd
      rw [lstP_at hpos]
      cases l with
      | nil => simp at hpos
      | cons a t => simp
    have HV := hide hv
    clear hcs hv
    simp only [pac, List.getElem?_cons_zero, List.getElem?_cons_succ] at c1
    generalize (l[l.length - 1]'(by omega)).we = q at *
    have HA := hide (ahead_any s q w)
    generalize ahd s q = d at *
    obtain ⟨m, hm⟩ : ∃ m : Nat, l.length = m + 1 := ⟨l.length - 1, by omega⟩
    rw [hm] at c1 k0 hli hpos'
    simp only [Nat.add_sub_cancel] at c1
    clear hm hpos hT
    have hli' : (m : Int) ≤ 1000 := by omega
    go_enter Tryd.func24, Tryd.ntmps24
    go_wp2_with fail
    refine HA.out.mono ?_
    rintro e w1 ⟨rfl, rfl⟩
    go_wp2_with fail
    go_ret
    exact ⟨by rw [HV.out]; rfl, rfl⟩
set_option maxHeartbeats 2000000 in
theorem shift_any (base b : Nat) (v : Value) (l : List Pa) (w : World) (hT : SL 57 base w b v l) (hl : l.length ≤ 1000) :
    Calls Tryd.prog 25 #[.pointer (some ⟨b, 0, none⟩)] w fun e w' => e = .returned (.int .u32 (shf l)) ∧ Later w w' := by
  have k0 := block_cell hT.2.1
  have hli : (l.length : Int) ≤ 1000 := by omega
  obtain ⟨av, cv, rfl, _, _⟩ := (ownP_rd hT.2.2).slice
  have hcase : l = [] ∨ 0 < l.length := by cases l <;> simp
  rcases hcase with rfl | hpos
  · go_enter Tryd.func25, Tryd.ntmps25
    go_wp2_with fail
    go_ret
    exact ⟨rfl, Later.refl _⟩
  · have hpos' : (0 : Int) < l.length := by omega
    obtain ⟨g, off, cp, e, _, _, hgn, hcs⟩ := (ownP_rd hT.2.2).cells hpos
    simp at e
    obtain ⟨rfl, rfl⟩ := e
    have c1 := hcs (l.length - 1) (by omega) 1 (by omega)
    have c3 := hcs (l.length - 1) (by omega) 3 (by omega)
    have hv : shf l = ((l[l.length - 1]'(by omega)).ie - (l[l.length - 1]'(by omega)).we) % 4294967296 := by
      unfold shf
      rw [lstP_at hpos]
      cases l with
      | nil => simp at hpos
      | cons a t => simp
    have HV := hide hv
    clear hcs hv
    simp only [pac, List.getElem?_cons_zero, List.getElem?_cons_succ] at c1 c3
    generalize (l[l.length - 1]'(by omega)).we = q at *
    generalize (l[l.length - 1]'(by omega)).ie = r at *
    obtain ⟨m, hm⟩ : ∃ m : Nat, l.length = m + 1 := ⟨l.length - 1, by omega⟩
    rw [hm] at c1 c3 k0 hli hpos'
    simp only [Nat.add_sub_cancel] at c1 c3
    clear hm hpos hT
    have hli' : (m : Int) ≤ 1000 := by omega
    go_enter Tryd.func25, Tryd.ntmps25
    go_upto_region 4 with fail
    go_quiet (fail)
    go_wp2_with fail
    go_ret
    exact ⟨by rw [HV.out]; first | rfl | simp, below_draw (Later.refl _) _⟩
end Go.Proofs.YtfnlakpjepjhbaaDoor

/- Package seqadj: Add. -/
namespace Go.Proofs.YtfnlakpjepjhbaaDoor
open Go.RowKit Go.Shelf
set_option maxRecDepth 100000
set_option linter.unusedVariables false
set_option linter.unusedSimpArgs false

/-- One more behind one's own. -/
theorem app1P (W : World) (ty : TypeId) (base : Nat) (v : Value) (xs : List Pa) (x : Pa) (hown : W.ownsRow base 64 5 v xs.length (pas xs)) (hb : base ≤ W.heap.size) (hs : xs.length ≤ 5000) :
    ∃ g cap W', (Builtin.append_ #[55, 55] ty #[v, .slice (some ⟨W.heap.size, 0, none⟩) 1 1]).run Tryd.prog (W.alloc (.cells (pac x).toArray 64)) = .ok (.slice (some ⟨g, 0, none⟩) (xs.length + 1) cap) W' ∧ W'.ownsRow base 64 5 (.slice (some ⟨g, 0, none⟩) (xs.length + 1) cap) (xs ++ [x]).length (pas (xs ++ [x])) ∧ But (fun b => v.ownBlock = some b) W W' ∧ (v.ownBlock = some g ∨ W.heap.size ≤ g) ∧ (W.alloc (.cells (pac x).toArray 64)).grownBy W' v.ownBlock := by
  have la : Later W (W.alloc (.cells (pac x).toArray 64)) := (Below.refl _ _).alloc (Nat.le_refl _) _
  have hn := heap_alloc_new W (.cells (pac x).toArray 64)
  have hI : RdP (W.heap.size + 1) (W.alloc (.cells (pac x).toArray 64)) (.slice (some ⟨W.heap.size, 0, none⟩) 1 1) [x] := .inr ⟨W.heap.size, 0, 1, rfl, by simp, by simp, by omega, by omega, fun j hj i hi => by
    obtain rfl : j = 0 := by simpa using hj
    rw [show 0 + 0 * 5 + i = i from by omega, block_cell hn i]
    simp⟩
  obtain ⟨v', w', h1, h2, h3, h4⟩ := appP (W.alloc (.cells (pac x).toArray 64)) ty base (W.heap.size + 1) v xs _ [x] (ownP_later hown la) hI (by have := la.size; omega) (by simp; omega)
  have h2' := h2
  rw [show (xs ++ [x]).length = xs.length + 1 from by simp] at h2'
  obtain ⟨g, cap, rfl⟩ := ownsRow_succ h2'
  refine ⟨g, cap, w', h1, h2, (But.of la).trans ⟨h3.os, h3.tape, h3.output, h3.size, fun k hk he => h3.block k hk (fun e => he e.symm)⟩, ?_, h3⟩
  rcases h4 with h4 | h4
  · exact .inl h4.symm
  · right
    simp [Value.ownBlock] at h4
    omega
theorem ownP_but {E : Nat → Prop} {base : Nat} {A B : World} {v : Value} {n : Nat} {xs : List Value} (h : A.ownsRow base 64 5 v n xs) (k : But E A B) (hE : ∀ g, v.ownBlock = some g → ¬ E g) : B.ownsRow base 64 5 v n xs := by
  obtain ⟨h1, h2 | ⟨g, cap, cur, hv, hg, hh, r⟩⟩ := h
  · exact ⟨h1, .inl h2⟩
  · exact ⟨h1, .inr ⟨g, cap, cur, hv, hg, (k.block g (Array.getElem?_eq_some_iff.1 hh).1 (hE g (by rw [hv]; rfl))).trans hh, r⟩⟩

/-- What Add tells. -/
def adS (l : List Pa) (s was tl : Int) : Int := if okN was = false then 2 else if okN tl = false then 2 else if pssd l s = true then 2 else if 8 ≤ l.length then 9 else 0
/-- The part that it adds. -/
def npP (l : List Pa) (s was : Int) (tl : Nat) (ta : Option Addr) (tc : Nat) : Pa := ⟨s, (s + was) % 4294967296, (s + shf l) % 4294967296, (s + shf l + (tl : Int)) % 4294967296, ta, tl, tc⟩
theorem shf_rng (l : List Pa) : 0 ≤ shf l ∧ shf l ≤ 4294967295 := by unfold shf; split <;> omega

set_option maxHeartbeats 8000000 in
theorem sadd_no (base b : Nat) (v : Value) (l : List Pa) (s was : Int) (tv : Value) (zs : List Int) (w : World) (hT : SL 57 base w b v l) (hl : l.length ≤ 1000) (hI : Rd w.heap.size w tv zs) (ha : adS l s was zs.length ≠ 0) :
    Calls Tryd.prog 8 #[.pointer (some ⟨b, 0, none⟩), .int .u32 s, .int .i64 was, tv] w fun e w' => e = .returned (.int .i64 (adS l s was zs.length)) ∧ w' = w := by
  obtain ⟨at0, ct0, rfl, _, _⟩ := hI.slice
  have k0 := block_cell hT.2.1
  obtain ⟨av, cv, rfl, _, _⟩ := (ownP_rd hT.2.2).slice
  have HMB := hide (fun n => mayBe_any n w)
  have HPS := hide (passed_any base b _ l s w hT hl)
  have hli : (l.length : Int) ≤ 1000 := by omega
  unfold adS at *
  clear hT hI
  go_enter Tryd.func8, Tryd.ntmps8
  cases h1 : okN was with
  | false =>
    go_wp2_with fail
    refine (HMB.out was).mono ?_
    rw [h1]
    rintro e w1 ⟨rfl, rfl⟩
    go_wp2_with fail
    go_ret
    exact ⟨by simp [h1], rfl⟩
  | true =>
    go_wp2_with fail
    refine (HMB.out was).mono ?_
    rw [h1]
    rintro e w1 ⟨rfl, rfl⟩
    cases h2 : okN zs.length with
    | false =>
      go_wp2_with fail
      refine (HMB.out zs.length).mono ?_
      rw [h2]
      rintro e w1 ⟨rfl, rfl⟩
      go_wp2_with fail
      go_ret
      exact ⟨by simp [h1, h2], rfl⟩
    | true =>
      go_wp2_with fail
      refine (HMB.out zs.length).mono ?_
      rw [h2]
      rintro e w1 ⟨rfl, rfl⟩
      go_wp2_with fail
      refine HPS.out.mono ?_
      cases h3 : pssd l s with
      | true =>
        rintro e w1 ⟨rfl, rfl⟩
        go_wp2_with fail
        go_ret
        exact ⟨by simp [h1, h2, h3], rfl⟩
      | false =>
        rintro e w1 ⟨rfl, rfl⟩
        have h8 : 8 ≤ l.length := by
          by_cases h : 8 ≤ l.length
          · exact h
          · rw [h1, h2, h3] at ha
            simp [h] at ha
        have h8' : (8 : Int) ≤ l.length := by omega
        go_wp2_with fail
        go_ret
        exact ⟨by simp [h1, h2, h3, h8], rfl⟩
end Go.Proofs.YtfnlakpjepjhbaaDoor

/- Package seqadj: Add, where it adds. -/
namespace Go.Proofs.YtfnlakpjepjhbaaDoor
open Go.RowKit Go.Shelf
set_option maxRecDepth 100000
set_option linter.unusedVariables false
set_option linter.unusedSimpArgs false

theorem adS_yes {l : List Pa} {s was tl : Int} (h : adS l s was tl = 0) : okN was = true ∧ okN tl = true ∧ pssd l s = false ∧ l.length < 8 := by
  unfold adS at h
  cases h1 : okN was <;> cases h2 : okN tl <;> cases h3 : pssd l s <;> simp [h1, h2, h3] at h ⊢
  omega
theorem okN_rng {n : Int} (h : okN n = true) : 1 ≤ n ∧ n ≤ 128 := by unfold okN at h; simpa using h

set_option maxHeartbeats 8000000 in
theorem sadd_yes (base b : Nat) (v : Value) (l : List Pa) (s was : Int) (tv : Value) (zs : List Int) (w : World) (hT : SL 57 base w b v l) (hbs : base ≤ w.heap.size) (hs : 0 ≤ s ∧ s ≤ 4294967295) (hI : Rd w.heap.size w tv zs) (ha : adS l s was zs.length = 0) :
    Calls Tryd.prog 8 #[.pointer (some ⟨b, 0, none⟩), .int .u32 s, .int .i64 was, tv] w fun e w' => e = .returned (.int .i64 0) ∧ ∃ ta tc, SLq 57 base w w' b v (l ++ [npP l s was zs.length ta tc]) := by
  obtain ⟨h1, h2, h3, h8⟩ := adS_yes ha
  obtain ⟨at0, ct0, rfl, _, _⟩ := hI.slice
  have k0 := block_cell hT.2.1
  obtain ⟨av, cv, rfl, _, _⟩ := (ownP_rd hT.2.2).slice
  have HMB := hide (mayBe_any was w)
  have HMT := hide (mayBe_any zs.length w)
  have HPS := hide (passed_any base b _ l s w hT (by omega))
  have HSH := hide (shift_any base b _ l w hT (by omega))
  rw [h1] at HMB
  rw [h2] at HMT
  rw [h3] at HPS
  have hw := okN_rng h1
  have hz := okN_rng h2
  have h8' : ¬ (8 : Int) ≤ l.length := by omega
  have hsr := shf_rng l
  have HCL := hide (fun W (lw : Later w W) => cloneb_any (.slice at0 zs.length ct0) zs W (by omega) (Rd.later hI lw))
  have HNE : Hid (some b ≠ Value.ownBlock (.slice av l.length cv)) := fun e => hT.ne hT.2.1 (by decide) e.symm
  obtain ⟨hs1, hs2⟩ := hs
  obtain ⟨hw1, hw2⟩ := hw
  obtain ⟨hz1, hz2⟩ := hz
  obtain ⟨hr1, hr2⟩ := hsr
  clear h1 h2 h3 ha hI
  go_enter Tryd.func8, Tryd.ntmps8
  go_wp2_with fail
  refine HMB.out.mono ?_
  rintro e w1 ⟨rfl, rfl⟩
  go_wp2_with fail
  refine HMT.out.mono ?_
  rintro e w1 ⟨rfl, rfl⟩
  go_wp2_with fail
  refine HPS.out.mono ?_
  rintro e w1 ⟨rfl, rfl⟩
  go_wp2_with fail
  refine HSH.out.mono ?_
  rintro e wx ⟨rfl, lx⟩
  clear k0 HMB HMT HPS HSH
  go_upto_region 8 with fail
  refine anyT_begin (R := But (fun g => g = b ∨ Value.ownBlock (.slice av l.length cv) = some g)) 26 rfl (by kernel_rfl) ?_
  have ld : Later wx wx.drew := Later.drew wx
  have LD := lx.trans ld
  generalize wx.drew = Wd at *
  have hTd := hT.later LD
  refine anyT_val (But.pre _) 0 rfl (by kernel_rfl) (by kernel_rfl) (by kernel_rfl) (fun _ _ _ _ h => h) rfl ?_; apply Exists.intro; refine ⟨fun v1 hv1 => ?_, ?_⟩; (· (go_simp; rfl)); simp only [Act.put, List.setIfInBounds_toArray, List.set_cons_zero, List.set_cons_succ]
  refine anyT_val (But.pre _) 1 rfl (by kernel_rfl) (by kernel_rfl) (by kernel_rfl) (fun _ _ _ _ h => h) rfl ?_; apply Exists.intro; refine ⟨fun v1 hv1 => ?_, ?_⟩; (· (go_simp; rfl)); simp only [Act.put, List.setIfInBounds_toArray, List.set_cons_zero, List.set_cons_succ]
  refine anyT_val (But.pre _) 2 rfl (by kernel_rfl) (by kernel_rfl) (by kernel_rfl) (fun _ _ _ _ h => h) rfl ?_; apply Exists.intro; refine ⟨fun v1 hv1 => ?_, ?_⟩; (· (go_simp; rfl)); simp only [Act.put, List.setIfInBounds_toArray, List.set_cons_zero, List.set_cons_succ]
  refine anyT_val (But.pre _) 3 rfl (by kernel_rfl) (by kernel_rfl) (by kernel_rfl) (fun _ _ _ _ h => h) rfl ?_; apply Exists.intro; refine ⟨fun v1 hv1 => ?_, ?_⟩; (· (go_simp; rfl)); simp only [Act.put, List.setIfInBounds_toArray, List.set_cons_zero, List.set_cons_succ]
  refine anyT_val (But.pre _) 5 rfl (by kernel_rfl) (by kernel_rfl) (by kernel_rfl) (fun _ _ _ _ h => h) rfl ?_; apply Exists.intro; refine ⟨fun v1 hv1 => ?_, ?_⟩; (· (go_simp; rfl)); simp only [Act.put, List.setIfInBounds_toArray, List.set_cons_zero, List.set_cons_succ]
  refine anyT_val (But.pre _) 6 rfl (by kernel_rfl) (by kernel_rfl) (by kernel_rfl) (fun _ _ _ _ h => h) rfl ?_; apply Exists.intro; refine ⟨fun v1 hv1 => ?_, ?_⟩; (· (go_simp; rfl)); simp only [Act.put, List.setIfInBounds_toArray, List.set_cons_zero, List.set_cons_succ]
  refine anyT_val (But.pre _) 7 rfl (by kernel_rfl) (by kernel_rfl) (by kernel_rfl) (fun _ _ _ _ h => h) rfl ?_; apply Exists.intro; refine ⟨fun v1 hv1 => ?_, ?_⟩; (· (go_simp; rfl)); simp only [Act.put, List.setIfInBounds_toArray, List.set_cons_zero, List.set_cons_succ]
  refine anyT_val (But.pre _) 8 rfl (by kernel_rfl) (by kernel_rfl) (by kernel_rfl) (fun _ _ _ _ h => h) rfl ?_; apply Exists.intro; refine ⟨fun v1 hv1 => ?_, ?_⟩; (· (go_simp; rfl)); simp only [Act.put, List.setIfInBounds_toArray, List.set_cons_zero, List.set_cons_succ]
  refine anyT_val (But.pre _) 9 rfl (by kernel_rfl) (by kernel_rfl) (by kernel_rfl) (fun _ _ _ _ h => h) rfl ?_; apply Exists.intro; refine ⟨fun v1 hv1 => ?_, ?_⟩; (· (go_simp; rfl)); simp only [Act.put, List.setIfInBounds_toArray, List.set_cons_zero, List.set_cons_succ]
  refine anyT_val (But.pre _) 10 rfl (by kernel_rfl) (by kernel_rfl) (by kernel_rfl) (fun _ _ _ _ h => h) rfl ?_; apply Exists.intro; refine ⟨fun v1 hv1 => ?_, ?_⟩; (· (go_simp; rfl)); simp only [Act.put, List.setIfInBounds_toArray, List.set_cons_zero, List.set_cons_succ]
  refine anyT_val (But.pre _) 11 rfl (by kernel_rfl) (by kernel_rfl) (by kernel_rfl) (fun _ _ _ _ h => h) rfl ?_; apply Exists.intro; refine ⟨fun v1 hv1 => ?_, ?_⟩; (· (go_simp; rfl)); simp only [Act.put, List.setIfInBounds_toArray, List.set_cons_zero, List.set_cons_succ]
  refine anyT_val (But.pre _) 12 rfl (by kernel_rfl) (by kernel_rfl) (by kernel_rfl) (fun _ _ _ _ h => h) rfl ?_; apply Exists.intro; refine ⟨fun v1 hv1 => ?_, ?_⟩; (· (go_simp; rfl)); simp only [Act.put, List.setIfInBounds_toArray, List.set_cons_zero, List.set_cons_succ]
  refine anyT_val (But.pre _) 13 rfl (by kernel_rfl) (by kernel_rfl) (by kernel_rfl) (fun _ _ _ _ h => h) rfl ?_; apply Exists.intro; refine ⟨fun v1 hv1 => ?_, ?_⟩; (· (go_simp; rfl)); simp only [Act.put, List.setIfInBounds_toArray, List.set_cons_zero, List.set_cons_succ]
  refine anyT_val (But.pre _) 14 rfl (by kernel_rfl) (by kernel_rfl) (by kernel_rfl) (fun _ _ _ _ h => h) rfl ?_; apply Exists.intro; refine ⟨fun v1 hv1 => ?_, ?_⟩; (· (go_simp; rfl)); simp only [Act.put, List.setIfInBounds_toArray, List.set_cons_zero, List.set_cons_succ]
  refine anyT_val (But.pre _) 15 rfl (by kernel_rfl) (by kernel_rfl) (by kernel_rfl) (fun _ _ _ _ h => h) rfl ?_; apply Exists.intro; refine ⟨fun v1 hv1 => ?_, ?_⟩; (· (go_simp; rfl)); simp only [Act.put, List.setIfInBounds_toArray, List.set_cons_zero, List.set_cons_succ]
  refine anyT_val (But.pre _) 16 rfl (by kernel_rfl) (by kernel_rfl) (by kernel_rfl) (fun _ _ _ _ h => h) rfl ?_; apply Exists.intro; refine ⟨fun v1 hv1 => ?_, ?_⟩; (· (go_simp; rfl)); simp only [Act.put, List.setIfInBounds_toArray, List.set_cons_zero, List.set_cons_succ]
  refine anyT_val (But.pre _) 17 rfl (by kernel_rfl) (by kernel_rfl) (by kernel_rfl) (fun _ _ _ _ h => h) rfl ?_; apply Exists.intro; refine ⟨fun v1 hv1 => ?_, ?_⟩; (· (go_simp; rfl)); simp only [Act.put, List.setIfInBounds_toArray, List.set_cons_zero, List.set_cons_succ]
  refine anyT_val (But.pre _) 18 rfl (by kernel_rfl) (by kernel_rfl) (by kernel_rfl) (fun _ _ _ _ h => h) rfl ?_; apply Exists.intro; refine ⟨fun v1 hv1 => ?_, ?_⟩; (· (go_simp; rfl)); simp only [Act.put, List.setIfInBounds_toArray, List.set_cons_zero, List.set_cons_succ]
  have e1 : (s + was % 4294967296) % 4294967296 = (s + was) % 4294967296 := by omega
  have e2 : ((s + shf l) % 4294967296 + (zs.length : Int) % 4294967296) % 4294967296 = ((s + shf l) % 4294967296 + (zs.length : Int)) % 4294967296 := by omega
  simp only [IntKind.wrap_u32, e1, e2]
  clear e1 e2
  have kd := block_cell hTd.2.1
  refine anyT_two 4 19 rfl rfl (by kernel_rfl) rfl rfl ?_ ?_
  · unfold Oper.wp
    go_simp
    refine ⟨But.refl _ _, ?_⟩
    clear kd
    refine anyT_one 19 rfl (by kernel_rfl) rfl ?_
    refine wp_enter 21 #[.slice at0 zs.length ct0] (by go_simp) ?_
    refine (HCL.out Wd LD).mono ?_
    rintro e W1 ⟨ta, tc, rfl, hOw, hbc⟩
    have lc : Later Wd W1 := hbc
    refine ⟨But.of lc, ?_⟩
    simp only [Act.put, List.setIfInBounds_toArray, List.set_cons_zero, List.set_cons_succ]
    have LC := LD.trans lc
    have hT1 := hT.later LC
    clear hOw
    refine anyT_val (But.pre _) 20 rfl (by kernel_rfl) (by kernel_rfl) (by kernel_rfl) (fun _ _ _ _ h => h) rfl ?_; apply Exists.intro; refine ⟨fun v1 hv1 => ?_, ?_⟩; (· (go_simp; rfl)); simp only [Act.put, List.setIfInBounds_toArray, List.set_cons_zero, List.set_cons_succ]
    refine anyT_one 21 rfl (by kernel_rfl) rfl ?_
    unfold Oper.wp
    go_simp
    have la : Later W1 (W1.alloc (.cells (pac (npP l s was zs.length ta tc)).toArray 64)) := (Below.refl _ _).alloc (Nat.le_refl _) _
    have LL := LC.trans la
    refine ⟨But.of la, ?_⟩
    change wpAnyT _ _ _ _ _ _ _ _ (W1.alloc (.cells (pac (npP l s was zs.length ta tc)).toArray 64))
    obtain ⟨g', cap', W6, hrun, hrow6, hbt6, hob6, hg6⟩ := app1P W1 55 base (.slice av l.length cv) l (npP l s was zs.length ta tc) hT1.2.2 (Nat.le_trans hbs LC.size) (by omega)
    have hT2 := hT.later LL
    refine anyT_one 22 rfl (by kernel_rfl) rfl ?_
    refine wp_app (.tmp 43) (.tmp 60) 55 rfl _ _ rfl rfl _ W6 hrun ?_
    have hb6 : But (fun g => g = b ∨ Value.ownBlock (.slice av l.length cv) = some g) (W1.alloc (.cells (pac (npP l s was zs.length ta tc)).toArray 64)) W6 := ⟨hg6.os, hg6.tape, hg6.output, hg6.size, fun k hk he => hg6.block k hk (fun e => he (.inr e.symm))⟩
    refine ⟨hb6, ?_⟩
    simp only [Act.put, List.setIfInBounds_toArray, List.set_cons_zero, List.set_cons_succ]
    have h6 : W6.heap[b]? = some (.cells #[.slice av l.length cv] 57 (0, 0)) := (hg6.block b (Array.getElem?_eq_some_iff.1 hT2.2.1).1 HNE.out).trans hT2.2.1
    have k6 := block_cell h6
    have f6 := block_frozen h6
    refine anyT_val (But.pre _) 23 rfl (by kernel_rfl) (by kernel_rfl) (by kernel_rfl) (fun _ _ _ _ h => h) rfl ?_; apply Exists.intro; refine ⟨fun v1 hv1 => ?_, ?_⟩; (· (go_simp; rfl)); simp only [Act.put, List.setIfInBounds_toArray, List.set_cons_zero, List.set_cons_succ]
    refine anyT_val (But.pre _) 24 rfl (by kernel_rfl) (by kernel_rfl) (by kernel_rfl) (fun _ _ _ _ h => h) rfl ?_; apply Exists.intro; refine ⟨fun v1 hv1 => ?_, ?_⟩; (· (go_simp; rfl)); simp only [Act.put, List.setIfInBounds_toArray, List.set_cons_zero, List.set_cons_succ]
    refine anyT_one 25 rfl (by kernel_rfl) rfl ?_
    unfold Oper.wp
    go_simp
    generalize hV : W6.setCell ⟨b, 0, none⟩ _ = V
    have hV3 := heap_set1 h6 0 (.slice (some ⟨g', 0, none⟩) (l.length + 1) cap')
    rw [hV] at hV3
    have hbV2 : But (fun g => g = b ∨ Value.ownBlock (.slice av l.length cv) = some g) W6 V := by rw [← hV]; exact (But.refl (fun g => g = b ∨ Value.ownBlock (.slice av l.length cv) = some g) _).setCell (p := ⟨b, 0, none⟩) (.inl rfl) _
    have hbV1 : But (fun g => g = b) W6 V := by rw [← hV]; exact (But.refl (fun g => g = b) _).setCell (p := ⟨b, 0, none⟩) rfl _
    refine ⟨hbV2, ?_⟩
    clear hV k6 f6
    refine anyT_done (by kernel_rfl) ?_
    have hfin : SLq 57 base w1 V b (.slice av l.length cv) (l ++ [npP l s was zs.length ta tc]) := by
      refine ⟨.slice (some ⟨g', 0, none⟩) (l.length + 1) cap', ⟨hT.1, hV3, ?_⟩, (But.of LL).trans (hb6.trans hbV2), ?_⟩
      · refine ownP_but hrow6 hbV1 (fun g hg e => ?_)
        rw [e] at hg
        have e2 : g' = b := by simpa [Value.ownBlock] using hg
        obtain ⟨q1, ⟨q2, q3⟩ | ⟨g2, cap, cur, hv, hgb, hh, q⟩⟩ := hrow6
        · simp at q2
        · have e1 : g' = g2 := by have := congrArg Value.ownBlock hv; simpa [Value.ownBlock] using this
          rw [← e1, e2, h6] at hh
          simp at hh
      · rcases hob6 with h | h
        · exact .inl h.symm
        · refine .inr (fun g hg => ?_)
          have : g' = g := by simpa [Value.ownBlock] using hg
          subst this
          have := LC.size
          omega
    have HF := hide hfin
    clear hfin
    go_wp2_with fail
    go_ret
    exact ⟨rfl, ta, tc, HF.out⟩
  · clear kd
    refine wp_enter 21 #[.slice at0 zs.length ct0] (by go_simp) ?_
    refine (HCL.out Wd LD).mono ?_
    rintro e W1 ⟨ta, tc, rfl, hOw, hbc⟩
    have lc : Later Wd W1 := hbc
    refine ⟨But.of lc, ?_⟩
    simp only [Act.put, List.setIfInBounds_toArray, List.set_cons_zero, List.set_cons_succ]
    have LC := LD.trans lc
    have hT1 := hT.later LC
    clear hOw
    have kd := block_cell hT1.2.1
    refine anyT_val (But.pre _) 20 rfl (by kernel_rfl) (by kernel_rfl) (by kernel_rfl) (fun _ _ _ _ h => h) rfl ?_; apply Exists.intro; refine ⟨fun v1 hv1 => ?_, ?_⟩; (· (go_simp; rfl)); simp only [Act.put, List.setIfInBounds_toArray, List.set_cons_zero, List.set_cons_succ]
    refine anyT_two 4 21 rfl rfl (by kernel_rfl) rfl rfl ?_ ?_
    · unfold Oper.wp
      go_simp
      refine ⟨But.refl _ _, ?_⟩
      clear kd
      refine anyT_one 21 rfl (by kernel_rfl) rfl ?_
      unfold Oper.wp
      go_simp
      have la : Later W1 (W1.alloc (.cells (pac (npP l s was zs.length ta tc)).toArray 64)) := (Below.refl _ _).alloc (Nat.le_refl _) _
      have LL := LC.trans la
      refine ⟨But.of la, ?_⟩
      change wpAnyT _ _ _ _ _ _ _ _ (W1.alloc (.cells (pac (npP l s was zs.length ta tc)).toArray 64))
      obtain ⟨g', cap', W6, hrun, hrow6, hbt6, hob6, hg6⟩ := app1P W1 55 base (.slice av l.length cv) l (npP l s was zs.length ta tc) hT1.2.2 (Nat.le_trans hbs LC.size) (by omega)
      have hT2 := hT.later LL
      refine anyT_one 22 rfl (by kernel_rfl) rfl ?_
      refine wp_app (.tmp 43) (.tmp 60) 55 rfl _ _ rfl rfl _ W6 hrun ?_
      have hb6 : But (fun g => g = b ∨ Value.ownBlock (.slice av l.length cv) = some g) (W1.alloc (.cells (pac (npP l s was zs.length ta tc)).toArray 64)) W6 := ⟨hg6.os, hg6.tape, hg6.output, hg6.size, fun k hk he => hg6.block k hk (fun e => he (.inr e.symm))⟩
      refine ⟨hb6, ?_⟩
      simp only [Act.put, List.setIfInBounds_toArray, List.set_cons_zero, List.set_cons_succ]
      have h6 : W6.heap[b]? = some (.cells #[.slice av l.length cv] 57 (0, 0)) := (hg6.block b (Array.getElem?_eq_some_iff.1 hT2.2.1).1 HNE.out).trans hT2.2.1
      have k6 := block_cell h6
      have f6 := block_frozen h6
      refine anyT_val (But.pre _) 23 rfl (by kernel_rfl) (by kernel_rfl) (by kernel_rfl) (fun _ _ _ _ h => h) rfl ?_; apply Exists.intro; refine ⟨fun v1 hv1 => ?_, ?_⟩; (· (go_simp; rfl)); simp only [Act.put, List.setIfInBounds_toArray, List.set_cons_zero, List.set_cons_succ]
      refine anyT_val (But.pre _) 24 rfl (by kernel_rfl) (by kernel_rfl) (by kernel_rfl) (fun _ _ _ _ h => h) rfl ?_; apply Exists.intro; refine ⟨fun v1 hv1 => ?_, ?_⟩; (· (go_simp; rfl)); simp only [Act.put, List.setIfInBounds_toArray, List.set_cons_zero, List.set_cons_succ]
      refine anyT_one 25 rfl (by kernel_rfl) rfl ?_
      unfold Oper.wp
      go_simp
      generalize hV : W6.setCell ⟨b, 0, none⟩ _ = V
      have hV3 := heap_set1 h6 0 (.slice (some ⟨g', 0, none⟩) (l.length + 1) cap')
      rw [hV] at hV3
      have hbV2 : But (fun g => g = b ∨ Value.ownBlock (.slice av l.length cv) = some g) W6 V := by rw [← hV]; exact (But.refl (fun g => g = b ∨ Value.ownBlock (.slice av l.length cv) = some g) _).setCell (p := ⟨b, 0, none⟩) (.inl rfl) _
      have hbV1 : But (fun g => g = b) W6 V := by rw [← hV]; exact (But.refl (fun g => g = b) _).setCell (p := ⟨b, 0, none⟩) rfl _
      refine ⟨hbV2, ?_⟩
      clear hV k6 f6
      refine anyT_done (by kernel_rfl) ?_
      have hfin : SLq 57 base w1 V b (.slice av l.length cv) (l ++ [npP l s was zs.length ta tc]) := by
        refine ⟨.slice (some ⟨g', 0, none⟩) (l.length + 1) cap', ⟨hT.1, hV3, ?_⟩, (But.of LL).trans (hb6.trans hbV2), ?_⟩
        · refine ownP_but hrow6 hbV1 (fun g hg e => ?_)
          rw [e] at hg
          have e2 : g' = b := by simpa [Value.ownBlock] using hg
          obtain ⟨q1, ⟨q2, q3⟩ | ⟨g2, cap, cur, hv, hgb, hh, q⟩⟩ := hrow6
          · simp at q2
          · have e1 : g' = g2 := by have := congrArg Value.ownBlock hv; simpa [Value.ownBlock] using this
            rw [← e1, e2, h6] at hh
            simp at hh
        · rcases hob6 with h | h
          · exact .inl h.symm
          · refine .inr (fun g hg => ?_)
            have : g' = g := by simpa [Value.ownBlock] using hg
            subst this
            have := LC.size
            omega
      have HF := hide hfin
      clear hfin
      go_wp2_with fail
      go_ret
      exact ⟨rfl, ta, tc, HF.out⟩
    · clear kd
      unfold Oper.wp
      go_simp
      have la : Later W1 (W1.alloc (.cells (pac (npP l s was zs.length ta tc)).toArray 64)) := (Below.refl _ _).alloc (Nat.le_refl _) _
      have LL := LC.trans la
      refine ⟨But.of la, ?_⟩
      change wpAnyT _ _ _ _ _ _ _ _ (W1.alloc (.cells (pac (npP l s was zs.length ta tc)).toArray 64))
      refine anyT_one 4 rfl (by kernel_rfl) rfl ?_
      have kd := block_cell (later_keep la hT1.2.1)
      generalize hgg : W1.alloc (.cells (pac (npP l s was zs.length ta tc)).toArray 64) = Wz at *
      unfold Oper.wp
      go_simp
      refine ⟨But.refl _ _, ?_⟩
      clear kd
      subst hgg
      obtain ⟨g', cap', W6, hrun, hrow6, hbt6, hob6, hg6⟩ := app1P W1 55 base (.slice av l.length cv) l (npP l s was zs.length ta tc) hT1.2.2 (Nat.le_trans hbs LC.size) (by omega)
      have hT2 := hT.later LL
      refine anyT_one 22 rfl (by kernel_rfl) rfl ?_
      refine wp_app (.tmp 43) (.tmp 60) 55 rfl _ _ rfl rfl _ W6 hrun ?_
      have hb6 : But (fun g => g = b ∨ Value.ownBlock (.slice av l.length cv) = some g) (W1.alloc (.cells (pac (npP l s was zs.length ta tc)).toArray 64)) W6 := ⟨hg6.os, hg6.tape, hg6.output, hg6.size, fun k hk he => hg6.block k hk (fun e => he (.inr e.symm))⟩
      refine ⟨hb6, ?_⟩
      simp only [Act.put, List.setIfInBounds_toArray, List.set_cons_zero, List.set_cons_succ]
      have h6 : W6.heap[b]? = some (.cells #[.slice av l.length cv] 57 (0, 0)) := (hg6.block b (Array.getElem?_eq_some_iff.1 hT2.2.1).1 HNE.out).trans hT2.2.1
      have k6 := block_cell h6
      have f6 := block_frozen h6
      refine anyT_val (But.pre _) 23 rfl (by kernel_rfl) (by kernel_rfl) (by kernel_rfl) (fun _ _ _ _ h => h) rfl ?_; apply Exists.intro; refine ⟨fun v1 hv1 => ?_, ?_⟩; (· (go_simp; rfl)); simp only [Act.put, List.setIfInBounds_toArray, List.set_cons_zero, List.set_cons_succ]
      refine anyT_val (But.pre _) 24 rfl (by kernel_rfl) (by kernel_rfl) (by kernel_rfl) (fun _ _ _ _ h => h) rfl ?_; apply Exists.intro; refine ⟨fun v1 hv1 => ?_, ?_⟩; (· (go_simp; rfl)); simp only [Act.put, List.setIfInBounds_toArray, List.set_cons_zero, List.set_cons_succ]
      refine anyT_one 25 rfl (by kernel_rfl) rfl ?_
      unfold Oper.wp
      go_simp
      generalize hV : W6.setCell ⟨b, 0, none⟩ _ = V
      have hV3 := heap_set1 h6 0 (.slice (some ⟨g', 0, none⟩) (l.length + 1) cap')
      rw [hV] at hV3
      have hbV2 : But (fun g => g = b ∨ Value.ownBlock (.slice av l.length cv) = some g) W6 V := by rw [← hV]; exact (But.refl (fun g => g = b ∨ Value.ownBlock (.slice av l.length cv) = some g) _).setCell (p := ⟨b, 0, none⟩) (.inl rfl) _
      have hbV1 : But (fun g => g = b) W6 V := by rw [← hV]; exact (But.refl (fun g => g = b) _).setCell (p := ⟨b, 0, none⟩) rfl _
      refine ⟨hbV2, ?_⟩
      clear hV k6 f6
      refine anyT_done (by kernel_rfl) ?_
      have hfin : SLq 57 base w1 V b (.slice av l.length cv) (l ++ [npP l s was zs.length ta tc]) := by
        refine ⟨.slice (some ⟨g', 0, none⟩) (l.length + 1) cap', ⟨hT.1, hV3, ?_⟩, (But.of LL).trans (hb6.trans hbV2), ?_⟩
        · refine ownP_but hrow6 hbV1 (fun g hg e => ?_)
          rw [e] at hg
          have e2 : g' = b := by simpa [Value.ownBlock] using hg
          obtain ⟨q1, ⟨q2, q3⟩ | ⟨g2, cap, cur, hv, hgb, hh, q⟩⟩ := hrow6
          · simp at q2
          · have e1 : g' = g2 := by have := congrArg Value.ownBlock hv; simpa [Value.ownBlock] using this
            rw [← e1, e2, h6] at hh
            simp at hh
        · rcases hob6 with h | h
          · exact .inl h.symm
          · refine .inr (fun g hg => ?_)
            have : g' = g := by simpa [Value.ownBlock] using hg
            subst this
            have := LC.size
            omega
      have HF := hide hfin
      clear hfin
      go_wp2_with fail
      go_ret
      exact ⟨rfl, ta, tc, HF.out⟩
end Go.Proofs.YtfnlakpjepjhbaaDoor

/- The walk of TopLines. -/
namespace Go.Proofs.YtfnlakpjepjhbaaDoor
open Go.RowKit Go.Shelf
set_option maxRecDepth 100000
set_option linter.unusedVariables false
set_option linter.unusedSimpArgs false

theorem top_math (first was : Int) (tl : Nat) (ta : Option Addr) (tc : Nat) (hf : 0 ≤ first ∧ first ≤ 4294967295) (hw : 1 ≤ was ∧ was ≤ 100) (ht : 1 ≤ tl ∧ tl ≤ 100) :
    mapS [npP [] ((first + 5) % 4294967296) was tl ta tc] first = first ∧ mapS [npP [] ((first + 5) % 4294967296) was tl ta tc] ((first + (5 + was + 2)) % 4294967296) = (first + (5 + (tl : Int) + 2)) % 4294967296 := by
  unfold mapS npP shf
  simp only [List.reverse_cons, List.reverse_nil, List.nil_append, List.isEmpty_nil, if_true]
  unfold acr bhd ahd
  simp only
  constructor
  · rw [if_pos (by simp; omega)]
    rfl
  · rw [if_neg (by simp; omega), if_neg (by simp; omega)]
    omega
theorem add_ok (s was : Int) (tl : Nat) (hw : 1 ≤ was ∧ was ≤ 100) (ht : 1 ≤ tl ∧ tl ≤ 100) : adS [] s was tl = 0 := by
  unfold adS okN pssd
  simp
  omega
/-- A line of a kind, and with another text in it. -/
theorem line_math {k : Int} {pre : List Int} (hS : Sh k false pre []) (hk4 : k ≠ 4) (hl5 : pre.length = 5) (hp : Mt.By pre) (hcp : ∀ z ∈ pre, z ≠ 13 ∧ z ≠ 10) (a0 a1 : Int) (ha0 : 0 ≤ a0 ∧ a0 ≤ 4294967295) (ha1 : 0 ≤ a1 ∧ a1 ≤ 4294967295) (n0 n1 : Nat) (h0 : 0 < n0) (h1 : 0 < n1) (g0 : n0 ≤ 65535) (g1 : n1 ≤ 65535) :
    fndB (pre ++ (nmsB (txtB k a0 n0) ++ [13, 10])) false = fdY k 5 (5 + ((nmsB (txtB k a0 n0)).length : Int)) a0 n0 ∧
    ∃ c, rpl 5 (5 + ((nmsB (txtB k a0 n0)).length : Int)) (pre ++ (nmsB (txtB k a0 n0) ++ [13, 10])) (nmsB (txtB k a1 n1)) = c ∧ fndB c false = fdY k 5 (5 + ((nmsB (txtB k a1 n1)).length : Int)) a1 n1 ∧ c.length = 5 + (nmsB (txtB k a1 n1)).length + 2 ∧ Mt.By c := by
  have e0 := whole_math hS hp Mt.By.nil hcp (fun z hz => by simp at hz) (by simp; omega) a0 ha0 n0 h0 g0 ⟨#[13, 10]⟩ rfl
  rw [if_neg hk4, hl5] at e0
  have e0' : fndB (pre ++ (nmsB (txtB k a0 n0) ++ [13, 10])) false = fdY k 5 (5 + ((nmsB (txtB k a0 n0)).length : Int)) a0 n0 := by
    rw [show nmsB (⟨#[13, 10]⟩ : ByteArray) = [13, 10] from rfl] at e0
    rw [e0, txt_is]
    rfl
  refine ⟨e0', ?_⟩
  have hB : Mt.By (pre ++ (nmsB (txtB k a0 n0) ++ [13, 10])) := app_by hp (app_by (nmsB_by _) By_crlf)
  obtain ⟨c, hc1, hc2, hc3⟩ := back_math hB e0' a1 ha1 n1 h1 g1
  have hl0 := txt_le k a0 ha0 n0 g0
  have hl1 := txt_le k a1 ha1 n1 g1
  rw [txt_is] at hc3 ⊢
  rw [txt_is]
  rw [txt_is] at hc1
  have hcl : c.length = 5 + (txt k a1 n1).length + 2 := by
    simp only [List.length_append, List.length_cons, List.length_nil] at hc3
    omega
  refine ⟨c, hc1, ?_, hcl, ?_⟩
  · rcases hc2 with ⟨h, _⟩ | ⟨_, h⟩
    · omega
    · rw [h, if_neg hk4]
  · rw [← hc1]
    unfold rpl
    rw [txt_is] at hB
    split
    · exact hB
    · exact app_by (hB.take _) (app_by (txt_by k a1 n1 ha1 g1) (fun z hz => hB z (List.mem_of_mem_drop hz)))

set_option maxHeartbeats 8000000 in
theorem walk_TopLines (w : World) (hT : TabR w) (hU : TabI w) (a0 a1 : Int) (ha0 : 0 ≤ a0 ∧ a0 ≤ 4294967295) (ha1 : 0 ≤ a1 ∧ a1 ≤ 4294967295) (p0 : Int) (hp0 : 0 ≤ p0 ∧ p0 ≤ 65535) (p1 : Int) (hp1 : 0 ≤ p1 ∧ p1 ≤ 65535) (first : Int) (hf : 0 ≤ first ∧ first ≤ 4294967295) :
    Calls Tryd.prog 3 #[.agg #[.int .u32 a0, .int .u32 a1], .agg #[.int .u16 p0, .int .u16 p1], .int .u32 first] w fun e w' => e = .returned (.bool true) ∧ Below w.heap.size w w' := by
  have HT := hide hT
  have HU := hide hU
  clear hT hU
  obtain ⟨n0, rfl⟩ : ∃ n : Nat, p0 = (n : Int) := ⟨p0.toNat, by omega⟩
  obtain ⟨n1, rfl⟩ : ∃ n : Nat, p1 = (n : Int) := ⟨p1.toNat, by omega⟩
  have l1 : Later w ((w.alloc (.cells #[.int .u32 a0, .int .u32 a1] 23)).alloc (.cells #[.int .u16 (n0 : Int), .int .u16 (n1 : Int)] 25)) := (later_allocR _ _).trans (later_allocR _ _)
  have B1 := hide (later_keep (later_allocR (w.alloc (.cells #[.int .u32 a0, .int .u32 a1] 23)) (.cells #[.int .u16 (n0 : Int), .int .u16 (n1 : Int)] 25)) (heap_alloc_new w (.cells #[.int .u32 a0, .int .u32 a1] 23)))
  have B2 := heap_alloc_new (w.alloc (.cells #[.int .u32 a0, .int .u32 a1] 23)) (.cells #[.int .u16 (n0 : Int), .int .u16 (n1 : Int)] 25)
  rw [show (w.alloc (.cells #[.int .u32 a0, .int .u32 a1] 23)).heap.size = w.heap.size + 1 by simp] at B2
  have B2 := hide B2
  go_enter Tryd.func3, Tryd.ntmps3
  go_upto_region 1 with fail
  generalize (w.alloc _).alloc _ = w1 at *
  have kA := block_cell B1.out
  have kP := block_cell B2.out
  by_cases hz : n0 = 0 ∨ n1 = 0
  · have HX := hide (text_4 0 7 w1 (HU.out.later l1) (by omega))
    rw [show (nmsB (decB 7)).length = 1 from by rw [dec7]; rfl] at HX
    rcases (show n0 = 0 ∨ (n0 ≠ 0 ∧ n1 = 0) by omega) with h | ⟨h, h'⟩
    case' inl => subst h
    case' inr => have e0 : ((n0 : Int) == 0) = false := by simp; omega
    case' inr => subst h'
    all_goals
      go_wp2_with fail
      refine HX.out.mono ?_
      rintro e w2 ⟨x, c, rfl, hR, b2⟩
      go_wp2_with fail
      go_ret
      exact ⟨rfl, l1.trans b2⟩
  · have e0 : ((n0 : Int) == 0) = false := by simp; omega
    have e1 : ((n1 : Int) == 0) = false := by simp; omega
    have h0 : 0 < n0 := by omega
    have h1 : 0 < n1 := by omega
    have g0 : n0 ≤ 65535 := by omega
    have g1 : n1 ≤ 65535 := by omega
    clear hz
    go_wp2_with fail
    clear kA kP e0 e1
    go_loopw [7] (fun v7 wr => ∃ k : Nat, 1 ≤ k ∧ k ≤ 3 ∧ v7 = .int .i64 (k : Int) ∧ Later w1 wr) (fun v7 _ => 3 - (intOf v7).toNat)
    case atStart => exact ⟨1, by omega, by omega, rfl, Later.refl _⟩
    case round =>
      obtain ⟨k, hk1, hk3, rfl, lr⟩ := hrel
      have LR : Later w wr := l1.trans lr
      rcases (show k = 1 ∨ k = 2 ∨ k = 3 by omega) with rfl | rfl | rfl
      · have la := later_allocR wr (.cells #[.string ⟨#[]⟩, .string ⟨#[80, 79, 82, 84, 32]⟩, .string ⟨#[69, 80, 82, 84, 32]⟩] 9)
        have BS := block_cell (heap_alloc_new wr (.cells #[.string ⟨#[]⟩, .string ⟨#[80, 79, 82, 84, 32]⟩, .string ⟨#[69, 80, 82, 84, 32]⟩] 9))
        go_upto_region 7 with fail
        clear BS
        generalize wr.alloc _ = u1 at *
        have Lu1 : Later w u1 := LR.trans la
        have Lb1 : Later w1 u1 := lr.trans la
        have kA := block_cell (later_keep Lb1 B1.out)
        have kP := block_cell (later_keep Lb1 B2.out)
        obtain ⟨HM0, c, hc1, hc2, hc3, hc4⟩ := line_math (k := 1) sh1 (by decide) rfl (by unfold Mt.By; decide) (by decide) a0 a1 ha0 ha1 n0 n1 h0 h1 g0 g1
        have HXa := hide (text_any 1 a0 (by decide) ha0 n0 u1 (HU.out.later Lu1) g0)
        have HXb := hide (fun W (lw : Later w W) => text_any 1 a1 (by decide) ha1 n1 W (HU.out.later lw) g1)
        have hq0 : 1 ≤ (txtB 1 a0 n0).size ∧ (txtB 1 a0 n0).size ≤ 40 := by have h8 := txt_le 1 a0 ha0 n0 g0; have h9 := txt_pos 1 a0 n0; rw [← txt_is, nmsB_len] at h8 h9; omega
        have hq1 : 1 ≤ (nmsB (txtB 1 a1 n1)).length ∧ (nmsB (txtB 1 a1 n1)).length ≤ 40 := by have h8 := txt_le 1 a1 ha1 n1 g1; have h9 := txt_pos 1 a1 n1; rw [← txt_is] at h8 h9; omega
        have HBc := hide hc4
        have HN0 := hide (str_nmsB (txtB 1 a0 n0))
        rw [nmsB_len (txtB 1 a0 n0)] at HM0 hc1
        have hBz : Mt.By ([80, 79, 82, 84, 32] ++ (nmsB (txtB 1 a0 n0) ++ [13, 10])) := app_by (by unfold Mt.By; decide) (app_by (nmsB_by _) By_crlf)
        have hsl : ([80, 79, 82, 84, 32] ++ (nmsB (txtB 1 a0 n0) ++ [13, 10]) : List Int).length = 5 + (txtB 1 a0 n0).size + 2 := by rw [List.length_append, List.length_append, nmsB_len]; simp; omega
        have HRb := hide (fun W => conv_rdS W 5 (⟨#[80, 79, 82, 84, 32]⟩ ++ txtB 1 a0 n0 ++ ⟨#[13, 10]⟩) (by rw [ByteArray.size_append, ByteArray.size_append]; show 5 + (txtB 1 a0 n0).size + 2 ≤ _; omega))
        rw [show nmsB (⟨#[80, 79, 82, 84, 32]⟩ ++ txtB 1 a0 n0 ++ ⟨#[13, 10]⟩) = [80, 79, 82, 84, 32] ++ (nmsB (txtB 1 a0 n0) ++ [13, 10]) from by rw [nmsB_app, nmsB_app, List.append_assoc]; rfl, show (⟨#[80, 79, 82, 84, 32]⟩ ++ txtB 1 a0 n0 ++ ⟨#[13, 10]⟩ : ByteArray).size = 5 + (txtB 1 a0 n0).size + 2 from by rw [ByteArray.size_append, ByteArray.size_append]; rfl] at HRb
        generalize hzs : [80, 79, 82, 84, 32] ++ (nmsB (txtB 1 a0 n0) ++ [13, 10]) = zs at *
        clear hzs
        generalize txtB 1 a0 n0 = ts0 at *
        generalize nmsB (txtB 1 a1 n1) = tx1 at *
        have HM := hide HM0
        have HC1 := hide hc1
        have HC2 := hide hc2
        have HC3 := hide hc3
        have HSL := hide hsl
        have HQ0 := hide hq0
        have HQ1 := hide hq1
        have HBZ := hide hBz
        have q0 : (ts0.size : Int) ≤ 40 := by omega
        have q1 : (tx1.length : Int) ≤ 40 := by omega
        clear HM0 hc1 hc2 hc3 hc4 hsl hq0 hq1 hBz
        go_wp2_with fail
        refine HXa.out.mono ?_
        rintro e u2 ⟨x2, c2, rfl, hR2, b2⟩
        have hcs := conv_rd 26 9 5 Tryd.underlying26 Tryd.underlying5 Tryd.underlying9 hR2
        rw [HN0.out] at hcs
        have Lu2 : Later w u2 := Lu1.trans b2
        have hcv := Lib.run_convert_string_bytes (P := Tryd.prog) u2 9 26 5 (⟨#[80, 79, 82, 84, 32]⟩ ++ ts0 ++ ⟨#[13, 10]⟩) Tryd.underlying9 Tryd.underlying26 Tryd.underlying5
        have l3 := conv_later u2 5 (⟨#[80, 79, 82, 84, 32]⟩ ++ ts0 ++ ⟨#[13, 10]⟩)
        have HR3 := hide (HRb.out u2)
        clear hR2 HXa HN0 HRb kA kP
        go_upto_region 8 with fail
        clear hcs hcv
        generalize Lib.bytesWorld u2 _ _ = u3 at *
        generalize grownCap u2 _ _ _ = c9 at *
        generalize u2.heap.size = b9 at *
        have Lu3 : Later w u3 := Lu2.trans l3
        have Lb3 : Later w1 u3 := Lb1.trans (Later.trans b2 l3)
        have HFa := hide (find_any _ zs false u3 (HT.out.later Lu3) HBZ.out HR3.out)
        rw [HM.out] at HFa
        unfold fdY at HFa
        clear b2 l3
        go_wp2_with fail
        refine HFa.out.mono ?_
        rintro e u4 ⟨rfl, b4⟩
        have l5 := later_allocR u4 (.cells #[.int .i64 1, .int .i64 5, .int .i64 (5 + (ts0.size : Int)), .int .u32 a0, .int .u16 (n0 : Int)] 31)
        have BF := hide (heap_alloc_new u4 (.cells #[.int .i64 1, .int .i64 5, .int .i64 (5 + (ts0.size : Int)), .int .u32 a0, .int .u16 (n0 : Int)] 31))
        go_upto_region 9 with fail
        generalize u4.alloc _ = u5 at *
        generalize u4.heap.size = bf at *
        have M35 : Later u3 u5 := Later.trans b4 l5
        have Lu5 : Later w u5 := Lu3.trans M35
        have Lb5 : Later w1 u5 := Lb3.trans M35
        clear b4 l5 HFa
        have kA := block_cell (later_keep Lb5 B1.out)
        have kP := block_cell (later_keep Lb5 B2.out)
        go_wp2_with fail
        refine (HXb.out u5 Lu5).mono ?_
        rintro e u6 ⟨x6, c6, rfl, hR6, b6⟩
        clear kA kP HXb
        have HR6 := hide hR6
        clear hR6
        have Lu6 : Later w u6 := Lu5.trans b6
        have kF := block_cell (later_keep b6 BF.out)
        have HRP := hide (replace_any 1 5 (5 + (ts0.size : Int)) a0 n0 _ _ zs tx1 u6 (HR3.out.later (M35.trans b6)) HR6.out (by have := HSL.out; have := HQ0.out; have := HQ1.out; omega) (by omega) (by have := HQ0.out; omega))
        rw [HC1.out] at HRP
        go_wp2_with fail
        refine HRP.out.mono ?_
        rintro e u7 ⟨x7, c7, rfl, hO7, b7⟩
        clear kF HRP
        have Lu7 : Later w u7 := Lu6.trans b7
        have HR7 := hide hO7.rd
        clear hO7
        have HFb := hide (find_any _ c false u7 (HT.out.later Lu7) HBc.out HR7.out)
        rw [HC2.out] at HFb
        unfold fdY at HFb
        go_wp2_with fail
        refine HFb.out.mono ?_
        rintro e u8 ⟨rfl, b8⟩
        have l9 := later_allocR u8 (.cells #[.int .i64 1, .int .i64 5, .int .i64 (5 + (tx1.length : Int)), .int .u32 a1, .int .u16 (n1 : Int)] 31)
        have BG := hide (heap_alloc_new u8 (.cells #[.int .i64 1, .int .i64 5, .int .i64 (5 + (tx1.length : Int)), .int .u32 a1, .int .u16 (n1 : Int)] 31))
        go_upto_region 12 with fail
        generalize u8.alloc _ = u9 at *
        generalize u8.heap.size = bg at *
        have M59 : Later u5 u9 := Later.trans b6 (Later.trans b7 (Later.trans b8 l9))
        have M69 : Later u6 u9 := Later.trans b7 (Later.trans b8 l9)
        have Lu9 : Later w u9 := Lu5.trans M59
        have Lb9 : Later w1 u9 := Lb5.trans M59
        clear HFb b6 b7 b8 l9
        go_wp2_with fail
        refine (snew_any u9).mono ?_
        rintro e v0 ⟨rfl, lv0, hSL⟩
        have hbs : u9.heap.size ≤ v0.heap.size := lv0.size
        have kF := block_cell (later_keep (M59.trans lv0) BF.out)
        have HAD := hide (sadd_yes u9.heap.size u9.heap.size (.slice none 0 0) [] ((first + 5) % 4294967296) (5 + (ts0.size : Int) - 5) _ tx1 v0 hSL hbs (by omega) (HR6.out.later (M69.trans lv0)) (add_ok _ _ _ (by have := HQ0.out; omega) (by have := HQ1.out; omega)))
        go_wp2_with fail
        refine HAD.out.mono ?_
        rintro e v1 ⟨rfl, ta, tc, v', hSL1, hbut1, _⟩
        clear kF HAD
        have hbu : Below u9.heap.size v0 v1 := hbut1.below hbs (fun k hk e => by rcases e with e | e; (· omega); (· cases e))
        have lv1 : Below u9.heap.size u9 v1 := Below.trans lv0 hbu
        have LV1 : Later w v1 := Lu9.trans (show Later u9 v1 from lv1)
        have Lr1 : Later w1 v1 := Lb9.trans (show Later u9 v1 from lv1)
        have kF := block_cell (later_keep (M59.trans (show Later u9 v1 from lv1)) BF.out)
        have kG := block_cell (later_keep (show Later u9 v1 from lv1) BG.out)
        have kA := block_cell (later_keep Lr1 B1.out)
        have kP := block_cell (later_keep Lr1 B2.out)
        obtain ⟨hm1, hm2⟩ := top_math first (5 + (ts0.size : Int) - 5) tx1.length ta tc hf (by have := HQ0.out; omega) (by have := HQ1.out; omega)
        have HMa := hide (fun W n hn (hs : SL 57 u9.heap.size W u9.heap.size v' ([] ++ [npP [] ((first + 5) % 4294967296) (5 + (ts0.size : Int) - 5) tx1.length ta tc])) => smap_any u9.heap.size u9.heap.size v' _ n hn W hs (by simp))
        have HSL1 := hide hSL1
        have HM1 := hide hm1
        have HM2 := hide hm2
        clear hm1 hm2 hSL1 hbut1 hSL
        have HMx := hide (HMa.out v1 first hf HSL1.out)
        rw [show mapS ([] ++ [npP [] ((first + 5) % 4294967296) (5 + (ts0.size : Int) - 5) tx1.length ta tc]) first = first from HM1.out] at HMx
        have hfn : (first != first) = false := by simp
        have e9 : (5 + (ts0.size : Int) - 5) = (ts0.size : Int) := by omega
        have HMy := hide (fun W (lw : Later v1 W) => HMa.out W ((first + (5 + (5 + (ts0.size : Int) - 5) + 2)) % 4294967296) (by omega) (HSL1.out.later lw))
        rw [show mapS ([] ++ [npP [] ((first + 5) % 4294967296) (5 + (ts0.size : Int) - 5) tx1.length ta tc]) ((first + (5 + (5 + (ts0.size : Int) - 5) + 2)) % 4294967296) = _ from HM2.out] at HMy
        rw [e9] at HMy
        have HC3' : Hid ((c.length : Int) = 5 + (tx1.length : Int) + 2) := by show _ = _; have := HC3.out; omega
        have q2 : (c.length : Int) ≤ 128 := by have := HC3.out; omega
        clear HMa e9
        go_wp2_with fail
        refine HMx.out.mono ?_
        rintro e v2 ⟨rfl, lv2⟩
        clear kF kG kA kP
        go_wp2_with fail
        refine (HMy.out v2 lv2).mono ?_
        rintro e v3 ⟨rfl, lv3⟩
        have hx : ((first + (5 + (tx1.length : Int) + 2)) % 4294967296 != (first + (c.length : Int)) % 4294967296) = false := by rw [HC3'.out]; simp
        have LR3 : Later w1 v3 := Lr1.trans (lv2.trans lv3)
        go_wp2_with fail
        go_roundw
        case rel => exact ⟨2, by omega, by omega, rfl, LR3⟩
        case measure => simp [intOf]
      · have la := later_allocR wr (.cells #[.string ⟨#[]⟩, .string ⟨#[80, 79, 82, 84, 32]⟩, .string ⟨#[69, 80, 82, 84, 32]⟩] 9)
        have BS := block_cell (heap_alloc_new wr (.cells #[.string ⟨#[]⟩, .string ⟨#[80, 79, 82, 84, 32]⟩, .string ⟨#[69, 80, 82, 84, 32]⟩] 9))
        go_upto_region 7 with fail
        clear BS
        generalize wr.alloc _ = u1 at *
        have Lu1 : Later w u1 := LR.trans la
        have Lb1 : Later w1 u1 := lr.trans la
        have kA := block_cell (later_keep Lb1 B1.out)
        have kP := block_cell (later_keep Lb1 B2.out)
        obtain ⟨HM0, c, hc1, hc2, hc3, hc4⟩ := line_math (k := 2) sh2 (by decide) rfl (by unfold Mt.By; decide) (by decide) a0 a1 ha0 ha1 n0 n1 h0 h1 g0 g1
        have HXa := hide (text_any 2 a0 (by decide) ha0 n0 u1 (HU.out.later Lu1) g0)
        have HXb := hide (fun W (lw : Later w W) => text_any 2 a1 (by decide) ha1 n1 W (HU.out.later lw) g1)
        have hq0 : 1 ≤ (txtB 2 a0 n0).size ∧ (txtB 2 a0 n0).size ≤ 40 := by have h8 := txt_le 2 a0 ha0 n0 g0; have h9 := txt_pos 2 a0 n0; rw [← txt_is, nmsB_len] at h8 h9; omega
        have hq1 : 1 ≤ (nmsB (txtB 2 a1 n1)).length ∧ (nmsB (txtB 2 a1 n1)).length ≤ 40 := by have h8 := txt_le 2 a1 ha1 n1 g1; have h9 := txt_pos 2 a1 n1; rw [← txt_is] at h8 h9; omega
        have HBc := hide hc4
        have HN0 := hide (str_nmsB (txtB 2 a0 n0))
        rw [nmsB_len (txtB 2 a0 n0)] at HM0 hc1
        have hBz : Mt.By ([69, 80, 82, 84, 32] ++ (nmsB (txtB 2 a0 n0) ++ [13, 10])) := app_by (by unfold Mt.By; decide) (app_by (nmsB_by _) By_crlf)
        have hsl : ([69, 80, 82, 84, 32] ++ (nmsB (txtB 2 a0 n0) ++ [13, 10]) : List Int).length = 5 + (txtB 2 a0 n0).size + 2 := by rw [List.length_append, List.length_append, nmsB_len]; simp; omega
        have HRb := hide (fun W => conv_rdS W 5 (⟨#[69, 80, 82, 84, 32]⟩ ++ txtB 2 a0 n0 ++ ⟨#[13, 10]⟩) (by rw [ByteArray.size_append, ByteArray.size_append]; show 5 + (txtB 2 a0 n0).size + 2 ≤ _; omega))
        rw [show nmsB (⟨#[69, 80, 82, 84, 32]⟩ ++ txtB 2 a0 n0 ++ ⟨#[13, 10]⟩) = [69, 80, 82, 84, 32] ++ (nmsB (txtB 2 a0 n0) ++ [13, 10]) from by rw [nmsB_app, nmsB_app, List.append_assoc]; rfl, show (⟨#[69, 80, 82, 84, 32]⟩ ++ txtB 2 a0 n0 ++ ⟨#[13, 10]⟩ : ByteArray).size = 5 + (txtB 2 a0 n0).size + 2 from by rw [ByteArray.size_append, ByteArray.size_append]; rfl] at HRb
        generalize hzs : [69, 80, 82, 84, 32] ++ (nmsB (txtB 2 a0 n0) ++ [13, 10]) = zs at *
        clear hzs
        generalize txtB 2 a0 n0 = ts0 at *
        generalize nmsB (txtB 2 a1 n1) = tx1 at *
        have HM := hide HM0
        have HC1 := hide hc1
        have HC2 := hide hc2
        have HC3 := hide hc3
        have HSL := hide hsl
        have HQ0 := hide hq0
        have HQ1 := hide hq1
        have HBZ := hide hBz
        have q0 : (ts0.size : Int) ≤ 40 := by omega
        have q1 : (tx1.length : Int) ≤ 40 := by omega
        clear HM0 hc1 hc2 hc3 hc4 hsl hq0 hq1 hBz
        go_wp2_with fail
        refine HXa.out.mono ?_
        rintro e u2 ⟨x2, c2, rfl, hR2, b2⟩
        have hcs := conv_rd 26 9 5 Tryd.underlying26 Tryd.underlying5 Tryd.underlying9 hR2
        rw [HN0.out] at hcs
        have Lu2 : Later w u2 := Lu1.trans b2
        have hcv := Lib.run_convert_string_bytes (P := Tryd.prog) u2 9 26 5 (⟨#[69, 80, 82, 84, 32]⟩ ++ ts0 ++ ⟨#[13, 10]⟩) Tryd.underlying9 Tryd.underlying26 Tryd.underlying5
        have l3 := conv_later u2 5 (⟨#[69, 80, 82, 84, 32]⟩ ++ ts0 ++ ⟨#[13, 10]⟩)
        have HR3 := hide (HRb.out u2)
        clear hR2 HXa HN0 HRb kA kP
        go_upto_region 8 with fail
        clear hcs hcv
        generalize Lib.bytesWorld u2 _ _ = u3 at *
        generalize grownCap u2 _ _ _ = c9 at *
        generalize u2.heap.size = b9 at *
        have Lu3 : Later w u3 := Lu2.trans l3
        have Lb3 : Later w1 u3 := Lb1.trans (Later.trans b2 l3)
        have HFa := hide (find_any _ zs false u3 (HT.out.later Lu3) HBZ.out HR3.out)
        rw [HM.out] at HFa
        unfold fdY at HFa
        clear b2 l3
        go_wp2_with fail
        refine HFa.out.mono ?_
        rintro e u4 ⟨rfl, b4⟩
        have l5 := later_allocR u4 (.cells #[.int .i64 2, .int .i64 5, .int .i64 (5 + (ts0.size : Int)), .int .u32 a0, .int .u16 (n0 : Int)] 31)
        have BF := hide (heap_alloc_new u4 (.cells #[.int .i64 2, .int .i64 5, .int .i64 (5 + (ts0.size : Int)), .int .u32 a0, .int .u16 (n0 : Int)] 31))
        go_upto_region 9 with fail
        generalize u4.alloc _ = u5 at *
        generalize u4.heap.size = bf at *
        have M35 : Later u3 u5 := Later.trans b4 l5
        have Lu5 : Later w u5 := Lu3.trans M35
        have Lb5 : Later w1 u5 := Lb3.trans M35
        clear b4 l5 HFa
        have kA := block_cell (later_keep Lb5 B1.out)
        have kP := block_cell (later_keep Lb5 B2.out)
        go_wp2_with fail
        refine (HXb.out u5 Lu5).mono ?_
        rintro e u6 ⟨x6, c6, rfl, hR6, b6⟩
        clear kA kP HXb
        have HR6 := hide hR6
        clear hR6
        have Lu6 : Later w u6 := Lu5.trans b6
        have kF := block_cell (later_keep b6 BF.out)
        have HRP := hide (replace_any 2 5 (5 + (ts0.size : Int)) a0 n0 _ _ zs tx1 u6 (HR3.out.later (M35.trans b6)) HR6.out (by have := HSL.out; have := HQ0.out; have := HQ1.out; omega) (by omega) (by have := HQ0.out; omega))
        rw [HC1.out] at HRP
        go_wp2_with fail
        refine HRP.out.mono ?_
        rintro e u7 ⟨x7, c7, rfl, hO7, b7⟩
        clear kF HRP
        have Lu7 : Later w u7 := Lu6.trans b7
        have HR7 := hide hO7.rd
        clear hO7
        have HFb := hide (find_any _ c false u7 (HT.out.later Lu7) HBc.out HR7.out)
        rw [HC2.out] at HFb
        unfold fdY at HFb
        go_wp2_with fail
        refine HFb.out.mono ?_
        rintro e u8 ⟨rfl, b8⟩
        have l9 := later_allocR u8 (.cells #[.int .i64 2, .int .i64 5, .int .i64 (5 + (tx1.length : Int)), .int .u32 a1, .int .u16 (n1 : Int)] 31)
        have BG := hide (heap_alloc_new u8 (.cells #[.int .i64 2, .int .i64 5, .int .i64 (5 + (tx1.length : Int)), .int .u32 a1, .int .u16 (n1 : Int)] 31))
        go_upto_region 12 with fail
        generalize u8.alloc _ = u9 at *
        generalize u8.heap.size = bg at *
        have M59 : Later u5 u9 := Later.trans b6 (Later.trans b7 (Later.trans b8 l9))
        have M69 : Later u6 u9 := Later.trans b7 (Later.trans b8 l9)
        have Lu9 : Later w u9 := Lu5.trans M59
        have Lb9 : Later w1 u9 := Lb5.trans M59
        clear HFb b6 b7 b8 l9
        go_wp2_with fail
        refine (snew_any u9).mono ?_
        rintro e v0 ⟨rfl, lv0, hSL⟩
        have hbs : u9.heap.size ≤ v0.heap.size := lv0.size
        have kF := block_cell (later_keep (M59.trans lv0) BF.out)
        have HAD := hide (sadd_yes u9.heap.size u9.heap.size (.slice none 0 0) [] ((first + 5) % 4294967296) (5 + (ts0.size : Int) - 5) _ tx1 v0 hSL hbs (by omega) (HR6.out.later (M69.trans lv0)) (add_ok _ _ _ (by have := HQ0.out; omega) (by have := HQ1.out; omega)))
        go_wp2_with fail
        refine HAD.out.mono ?_
        rintro e v1 ⟨rfl, ta, tc, v', hSL1, hbut1, _⟩
        clear kF HAD
        have hbu : Below u9.heap.size v0 v1 := hbut1.below hbs (fun k hk e => by rcases e with e | e; (· omega); (· cases e))
        have lv1 : Below u9.heap.size u9 v1 := Below.trans lv0 hbu
        have LV1 : Later w v1 := Lu9.trans (show Later u9 v1 from lv1)
        have Lr1 : Later w1 v1 := Lb9.trans (show Later u9 v1 from lv1)
        have kF := block_cell (later_keep (M59.trans (show Later u9 v1 from lv1)) BF.out)
        have kG := block_cell (later_keep (show Later u9 v1 from lv1) BG.out)
        have kA := block_cell (later_keep Lr1 B1.out)
        have kP := block_cell (later_keep Lr1 B2.out)
        obtain ⟨hm1, hm2⟩ := top_math first (5 + (ts0.size : Int) - 5) tx1.length ta tc hf (by have := HQ0.out; omega) (by have := HQ1.out; omega)
        have HMa := hide (fun W n hn (hs : SL 57 u9.heap.size W u9.heap.size v' ([] ++ [npP [] ((first + 5) % 4294967296) (5 + (ts0.size : Int) - 5) tx1.length ta tc])) => smap_any u9.heap.size u9.heap.size v' _ n hn W hs (by simp))
        have HSL1 := hide hSL1
        have HM1 := hide hm1
        have HM2 := hide hm2
        clear hm1 hm2 hSL1 hbut1 hSL
        have HMx := hide (HMa.out v1 first hf HSL1.out)
        rw [show mapS ([] ++ [npP [] ((first + 5) % 4294967296) (5 + (ts0.size : Int) - 5) tx1.length ta tc]) first = first from HM1.out] at HMx
        have hfn : (first != first) = false := by simp
        have e9 : (5 + (ts0.size : Int) - 5) = (ts0.size : Int) := by omega
        have HMy := hide (fun W (lw : Later v1 W) => HMa.out W ((first + (5 + (5 + (ts0.size : Int) - 5) + 2)) % 4294967296) (by omega) (HSL1.out.later lw))
        rw [show mapS ([] ++ [npP [] ((first + 5) % 4294967296) (5 + (ts0.size : Int) - 5) tx1.length ta tc]) ((first + (5 + (5 + (ts0.size : Int) - 5) + 2)) % 4294967296) = _ from HM2.out] at HMy
        rw [e9] at HMy
        have HC3' : Hid ((c.length : Int) = 5 + (tx1.length : Int) + 2) := by show _ = _; have := HC3.out; omega
        have q2 : (c.length : Int) ≤ 128 := by have := HC3.out; omega
        clear HMa e9
        go_wp2_with fail
        refine HMx.out.mono ?_
        rintro e v2 ⟨rfl, lv2⟩
        clear kF kG kA kP
        go_wp2_with fail
        refine (HMy.out v2 lv2).mono ?_
        rintro e v3 ⟨rfl, lv3⟩
        have hx : ((first + (5 + (tx1.length : Int) + 2)) % 4294967296 != (first + (c.length : Int)) % 4294967296) = false := by rw [HC3'.out]; simp
        have LR3 : Later w1 v3 := Lr1.trans (lv2.trans lv3)
        go_wp2_with fail
        go_roundw
        case rel => exact ⟨3, by omega, by omega, rfl, LR3⟩
        case measure => simp [intOf]
      · go_wp2_with fail
        go_ret
        exact ⟨rfl, LR⟩
end Go.Proofs.YtfnlakpjepjhbaaDoor
