/- Package pool: appends of 16 bits, Take in two cases, how many are taken; the document's New; play without deeds. -/
import Derived.Test.YtfompbpllndmfaaDoorPQ
import Derived.Test.YtfompbpllndmfaaDoorPR
import Derived.Test.YtfompbpllndmfaaDoorPS
namespace Go.Proofs.YtfompbpllndmfaaDoor
open Go.RowKit Go.Shelf
set_option maxRecDepth 100000
set_option linter.unusedVariables false
set_option linter.unusedSimpArgs false

theorem wpList_app16 {ops : Array Oper} {rest : List Oper} {o : Oper} {a : Act} {Q : Exit → Act → World → Prop} {W : World} (hgd : o.guard = none) (s y : Operand)
    (ho : o.op = .call { callee := .builtin .append, args := #[s, y], argTypes := #[23, 23] }) (base : Nat) (v : Value) (M : List Nat) (x : Nat)
    (hs : a.eval s = v) (hy : a.eval y = .slice (some ⟨W.heap.size, 0, none⟩) 1 1) (hown : W.ownsRow base 22 1 v M.length (u16s M)) (hb : base ≤ W.heap.size) (hM : M.length ≤ 100000)
    (h : ∀ g cp W2, W2.ownsRow base 22 1 (.slice (some ⟨g, 0, none⟩) (M.length + 1) cp) (M ++ [x]).length (u16s (M ++ [x])) → Below base W W2 → wpList Tryd.prog ops Q rest (a.put o.dst (.slice (some ⟨g, 0, none⟩) (M.length + 1) cp)) W2) :
    wpList Tryd.prog ops Q (o :: rest) a (W.alloc (.cells #[.int .u16 (x : Int)] 22)) := by
  obtain ⟨i0, hi0, hz0, hz1, hz2⟩ := info_parts info_u16
  have la : Later W (W.alloc (.cells #[.int .u16 (x : Int)] 22)) := (Below.refl _ _).alloc (Nat.le_refl _) _
  have hownA := ownsN_ct hown (CT.of la)
  refine wpList_append_own _ hgd s y 23 ho base 22 i0 (.int .u16 0) 1 2 Tryd.underlying23 hi0 hz0 hz1 hz2 rfl (by decide) v M.length (u16s M) hs hownA ⟨W.heap.size, 0, none⟩ 1 1 [.int .u16 (x : Int)] hy rfl (new_u16 W [.int .u16 (x : Int)]) (by intro u hu; simp at hu; subst hu; rfl) (by unfold maxLen; omega) (by omega) (by have := la.size; omega) ?_
  intro v2 W2 hrow hg _
  obtain ⟨g2, cp2, rfl⟩ := ownsRow_succ hrow
  refine h g2 cp2 W2 ?_ ?_
  · rw [u16s_snoc, List.length_append, List.length_singleton]
    exact hrow
  · refine (la.mono hb).trans ⟨hg.os, hg.tape, hg.output, hg.size, fun i hi => hg.block i (by have := la.size; omega) (fun e => ?_)⟩
    have := (hown.lt i e.symm).1
    omega

theorem ownsN_but {E : Nat → Prop} {t : TypeId} {sz base : Nat} {A B : World} {v : Value} {n : Nat} {xs : List Value} (h : A.ownsRow base t sz v n xs) (k : But E A B) (hE : ∀ g, base ≤ g → ¬ E g) : B.ownsRow base t sz v n xs := by
  obtain ⟨h1, h2 | ⟨g, cap, cur, hv, hg, hh, r⟩⟩ := h
  · exact ⟨h1, .inl h2⟩
  · exact ⟨h1, .inr ⟨g, cap, cur, hv, hg, (k.block g (Array.getElem?_eq_some_iff.1 hh).1 (hE g hg)).trans hh, r⟩⟩
theorem ownsN_cell {base : Nat} {A : World} {xs : List Nat} {sa : Option Addr} {n cap : Nat} (h : A.ownsRow base 22 1 (.slice sa n cap) xs.length (u16s xs)) (hne : 0 < xs.length) : ∃ g, sa = some ⟨g, 0, none⟩ ∧ xs.length ≤ cap ∧ cap ≤ maxLen ∧ ∀ j, j < xs.length → A.cell? ⟨g, j, none⟩ = some (.int .u16 ((xs[j]?.getD 0 : Nat) : Int)) := by
  obtain ⟨h1, ⟨e, h0⟩ | ⟨g, cp, cur, e, hg, hh, hl, hm, hs, hc⟩⟩ := h
  · omega
  · cases e
    refine ⟨g, rfl, hl, hm, fun j hj => ?_⟩
    rw [block_cell hh j]
    have : cur.toList[j]? = (u16s xs)[j]? := by rw [← hc, List.getElem?_take_of_lt (by omega)]
    rw [← Array.getElem?_toList, this]
    unfold u16s
    rw [List.getElem?_map, List.getElem?_eq_getElem hj]
    rfl

/-- Take, in two cases: one is given that was free, or there is none. -/
def tk2 (base : Nat) (w : World) (b low high : Nat) (ws : Nat → Nat) (e : Ending) (w' : World) : Prop :=
  (∃ n, n < 65536 ∧ fr ws n = true ∧ e = .returned (.tuple #[.int .u16 (n : Int), .int .i64 0]) ∧ PB base w' b (low : Int) (high : Int) (wsR ws n) ∧ But (fun g => g = b) w w') ∨ ((∀ m, m < 65536 → fr ws m = false) ∧ e = .returned (.tuple #[.int .u16 0, .int .i64 9]) ∧ PB base w' b (low : Int) (high : Int) ws ∧ But (fun g => g = b) w w')
theorem take_two (base b low high : Nat) (ws : Nat → Nat) (wish : Nat) (w : World) (hT : PB base w b (low : Int) (high : Int) ws) (hz : Dz w) (hw : wish < 65536) :
    Calls Tryd.prog 9 #[.pointer (some ⟨b, 0, none⟩), .int .u16 (wish : Int)] w (tk2 base w b low high ws) := by
  refine (take8_any base b low high ws wish w hT hw hz).mono ?_
  rintro e w' ⟨rfl, ht, hbt⟩
  rcases ht with ⟨h1, h2⟩ | ⟨h1, h2⟩
  · right
    rw [tke_f h1]
    unfold fsb at h1
    cases hq : fr ws wish with
    | true => rw [hq] at h1; simp at h1
    | false =>
      rw [hq] at h1
      cases hL : els ws with
      | nil =>
        refine ⟨fun m hm => ?_, rfl, h2, hbt⟩
        cases hf : fr ws m with
        | false => rfl
        | true => have := mem_els.2 ⟨hm, hf⟩; rw [hL] at this; simp at this
      | cons x L => rw [hL] at h1; simp at h1
  · left
    rw [tke_t h1]
    refine ⟨_, ?_, ?_, rfl, h2, hbt⟩
    all_goals
      unfold fsb at h1
      unfold fsn
      cases hq : fr ws wish with
      | true => first | exact hw | exact hq
      | false =>
        rw [hq] at h1
        cases hL : els ws with
        | nil => rw [hL] at h1; simp at h1
        | cons x L =>
          have := mem_els.1 (show x ∈ els ws by rw [hL]; simp)
          simp [this.1, this.2]

theorem usd_len {low high : Nat} {ws : Nat → Nat} (hlh : low ≤ high) (hh : high < 65536) (h : ∀ m, m < 65536 → fr ws m = true → low ≤ m ∧ m ≤ high) : (usd low high ws).length + cnt ws 1024 = high - low + 1 := by
  have e1 : els ws = (nums low high).filter (fr ws) := by
    have : nums low high = (List.range 65536).filter (fun m => decide (low ≤ m ∧ m ≤ high)) := (filter_interval _ 65536 low high hlh hh (fun m _ => rfl)).symm
    rw [this, List.filter_filter, els_eq]
    refine List.filter_congr (fun x hx => ?_)
    have hx' : x < 65536 := by simpa using hx
    cases hf : fr ws x with
    | false => simp
    | true => have := h x hx' hf; simp [this]
  have e2 : usd low high ws = (nums low high).filter (fun m => !fr ws m) := by
    unfold usd usf
    refine List.filter_congr (fun x hx => ?_)
    have := (mem_nums hlh).1 hx
    unfold hsP
    simp [this]
  rw [cnt_els, e1, e2, ← nums_length low high]
  generalize nums low high = L
  induction L with
  | nil => rfl
  | cons x L ih =>
    cases hf : fr ws x with
    | false => simp [hf]; omega
    | true => simp [hf]; omega

theorem rnew8_yes (low high : Nat) (hl1 : 1 ≤ low) (hlh : low ≤ high) (hh : high < 65536) (w : World) :
    Calls Tryd.prog 17 #[.int .u16 (low : Int), .int .u16 (high : Int)] w fun e w' => e = .returned (.pointer (some ⟨w.heap.size, 0, none⟩)) ∧ w' = w.alloc (.cells #[.int .i64 (low : Int), .int .i64 (high : Int), .slice none 0 0] 61) := by
  have h0 : ¬ (low : Int) = 0 := by omega
  have h1 : ¬ (high : Int) < (low : Int) := by omega
  have h2 : 0 ≤ (high : Int) ∧ (high : Int) ≤ 65535 := by omega
  have h3 : 0 ≤ (low : Int) ∧ (low : Int) ≤ 65535 := by omega
  clear hl1 hlh hh
  generalize (low : Int) = lo at *
  generalize (high : Int) = hi at *
  obtain ⟨h4, h5⟩ := h2
  obtain ⟨h6, h7⟩ := h3
  go_enter Tryd.func17, Tryd.ntmps17
  go_wp2_with fail
  go_ret
  exact ⟨rfl, rfl⟩
end Go.Proofs.YtfompbpllndmfaaDoor
