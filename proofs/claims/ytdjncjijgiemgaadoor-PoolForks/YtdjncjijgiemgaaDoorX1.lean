/- Several texts in one. -/
import Derived.Test.YtdjncjijgiemgaaDoorP3
import Derived.Test.YtdjncjijgiemgaaDoorX2
import Derived.Test.YtdjncjijgiemgaaDoorOpE
import Derived.Deep.Upon
/- Both pools: what is free in the program's is free in the document's. -/
namespace Go.Proofs.YtdjncjijgiemgaaDoor
open Go.RowKit Go.Shelf
set_option maxRecDepth 100000
set_option linter.unusedVariables false
set_option linter.unusedSimpArgs false

/-- Both hold the same: what is taken, rising, between the ends. -/
structure R8 (low high : Nat) (ws : Nat → Nat) (U : List Nat) : Prop where
  h1 : 1 ≤ low
  h2 : low ≤ high
  h3 : high < 65536
  fre : ∀ m, m < 65536 → fr ws m = rfr low high U m
  up : U.Pairwise (· < ·)
  inn : ∀ x ∈ U, low ≤ x ∧ x ≤ high
theorem R8.start {low high : Nat} (h1 : 1 ≤ low) (h2 : low ≤ high) (h3 : high < 65536) : R8 low high (wsOf (nums low high)) [] :=
  ⟨h1, h2, h3, fun m _ => by rw [fr_wsOf]; unfold rfr; rw [Bool.eq_iff_iff]; simp [mem_nums h2], List.Pairwise.nil, fun x h => by simp at h⟩
theorem mem_insU (n : Nat) : ∀ (U : List Nat) (x : Nat), x ∈ insU n U ↔ x = n ∨ x ∈ U
  | [], x => by simp [insU]
  | y :: ys, x => by
    unfold insU
    split
    · simp
    · simp [mem_insU n ys x]
      constructor
      · rintro (h | h | h) <;> simp [h]
      · rintro (h | h | h) <;> simp [h]
theorem up_insU (n : Nat) : ∀ (U : List Nat), U.Pairwise (· < ·) → n ∉ U → (insU n U).Pairwise (· < ·)
  | [], _, _ => by simp [insU]
  | y :: ys, h, hn => by
    have h' := List.pairwise_cons.1 h
    unfold insU
    split
    · rename_i hlt
      refine List.pairwise_cons.2 ⟨fun z hz => ?_, h⟩
      rcases List.mem_cons.1 hz with rfl | hz
      · exact hlt
      · exact Nat.lt_trans hlt (h'.1 z hz)
    · rename_i hge
      refine List.pairwise_cons.2 ⟨fun z hz => ?_, up_insU n ys h'.2 (fun hm => hn (by simp [hm]))⟩
      rcases (mem_insU n ys z).1 hz with rfl | hz
      · have : z ≠ y := fun e => hn (by simp [e])
        omega
      · exact h'.1 z hz
theorem R8.take {low high : Nat} {ws : Nat → Nat} {U : List Nat} {n : Nat} (h : R8 low high ws U) (hl : low ≤ n) (hh : n ≤ high) (hn : n ∉ U) : R8 low high (wsR ws n) (insU n U) :=
  ⟨h.h1, h.h2, h.h3, fun m hm => by
    rw [fr_wsR, h.fre m hm]
    unfold rfr
    rw [Bool.eq_iff_iff]
    simp [mem_insU]
    constructor
    · rintro ⟨⟨a, b, c⟩, d⟩; exact ⟨a, b, d, c⟩
    · rintro ⟨a, b, d, c⟩; exact ⟨⟨a, b, c⟩, d⟩, up_insU n U h.up hn, fun x hx => by
    rcases (mem_insU n U x).1 hx with rfl | hx
    · exact ⟨hl, hh⟩
    · exact h.inn x hx⟩
theorem R8.give {low high : Nat} {ws : Nat → Nat} {U : List Nat} {n : Nat} (h : R8 low high ws U) (hn : n ∈ U) : R8 low high (wsA ws n) (outU n U) :=
  ⟨h.h1, h.h2, h.h3, fun m hm => by
    rw [fr_wsA, h.fre m hm]
    have := h.inn n hn
    unfold rfr outU
    rw [Bool.eq_iff_iff]
    by_cases e : m = n
    · subst e; simp; omega
    · simp [e], List.Pairwise.sublist List.filter_sublist h.up, fun x hx => h.inn x (List.mem_filter.1 hx).1⟩
theorem R8.els {low high : Nat} {ws : Nat → Nat} {U : List Nat} (h : R8 low high ws U) : els ws = (nums low high).filter (rfr low high U) := by
  have : nums low high = (List.range 65536).filter (fun m => decide (low ≤ m ∧ m ≤ high)) := (filter_interval _ 65536 low high h.h2 h.h3 (fun m _ => rfl)).symm
  rw [this, List.filter_filter, els_eq]
  refine List.filter_congr (fun x hx => ?_)
  have hx' : x < 65536 := by simpa using hx
  rw [h.fre x hx']
  unfold rfr
  rw [Bool.eq_iff_iff]
  simp
  intro a b c
  exact ⟨a, b⟩
theorem R8.prs {low high : Nat} {ws : Nat → Nat} {U : List Nat} (h : R8 low high ws U) {n : Nat} (hn : n < 65536) : prs ws n = rok low high U true n := by
  unfold Go.Proofs.YtdjncjijgiemgaaDoor.prs rok
  rw [h.fre n hn]
  by_cases h2 : n % 2 = 0
  · rw [h.fre (n + 1) (by omega)]
    cases rfr low high U n <;> simp [h2]
  · simp [h2]
theorem R8.prl {low high : Nat} {ws : Nat → Nat} {U : List Nat} (h : R8 low high ws U) : prl ws (Go.Proofs.YtdjncjijgiemgaaDoor.els ws) = (nums low high).filter (rok low high U true) := by
  unfold Go.Proofs.YtdjncjijgiemgaaDoor.prl
  rw [h.els, List.filter_filter]
  refine List.filter_congr (fun x hx => ?_)
  have hx' := (mem_nums h.h2).1 hx
  rw [h.prs (by have := h.h3; omega)]
  unfold rok
  cases rfr low high U x <;> simp
theorem R8.fsn_take {low high : Nat} {ws : Nat → Nat} {U : List Nat} (h : R8 low high ws U) {wish : Nat} (hw : wish < 65536) : fsn (fr ws wish) wish (Go.Proofs.YtdjncjijgiemgaaDoor.els ws) = rtn low high U false wish := by
  unfold fsn rtn lst
  rw [h.els, h.fre wish hw, show (rok low high U false) = rfr low high U from funext (fun n => by unfold rok; simp)]
theorem R8.fsn_pair {low high : Nat} {ws : Nat → Nat} {U : List Nat} (h : R8 low high ws U) {wish : Nat} (hw : wish < 65536) : fsn (Go.Proofs.YtdjncjijgiemgaaDoor.prs ws wish) wish (Go.Proofs.YtdjncjijgiemgaaDoor.prl ws (Go.Proofs.YtdjncjijgiemgaaDoor.els ws)) = rtn low high U true wish := by
  unfold fsn rtn lst
  rw [h.prl, h.prs hw]
end Go.Proofs.YtdjncjijgiemgaaDoor

/- Both pools in memory: a call on each side, one behind the other. -/
namespace Go.Proofs.YtdjncjijgiemgaaDoor
open Go.RowKit Go.Shelf
set_option maxRecDepth 100000
set_option linter.unusedVariables false
set_option linter.unusedSimpArgs false

theorem up_len : ∀ (U : List Nat) (lo hi : Nat), U.Pairwise (· < ·) → (∀ x ∈ U, lo ≤ x ∧ x ≤ hi) → U.length ≤ hi + 1 - lo
  | [], _, _, _, _ => by simp
  | x :: xs, lo, hi, h, hb => by
    have h' := List.pairwise_cons.1 h
    have hx := hb x (by simp)
    have := up_len xs (x + 1) hi h'.2 (fun y hy => ⟨h'.1 y hy, (hb y (by simp [hy])).2⟩)
    simp
    omega
theorem R8.len {low high : Nat} {ws : Nat → Nat} {U : List Nat} (h : R8 low high ws U) : U.length ≤ 90000 := by
  have := up_len U low high h.up h.inn
  have := h.h3
  omega
theorem fsb_of {low high : Nat} {U : List Nat} {two : Bool} {wish : Nat} (h1 : 1 ≤ low) (h2 : low ≤ high) : fsb (rok low high U two wish) ((nums low high).filter (rok low high U two)) = !decide (rtn low high U two wish = 0) := by
  unfold fsb rtn lst
  cases hq : rok low high U two wish with
  | true => have := rok_range hq; simp; omega
  | false =>
    cases hL : (nums low high).filter (rok low high U two) with
    | nil => simp
    | cons x L =>
      have hx : x ∈ (nums low high).filter (rok low high U two) := by rw [hL]; simp
      have := (mem_nums h2).1 (List.mem_filter.1 hx).1
      simp
      omega
theorem R8.fsb_take {low high : Nat} {ws : Nat → Nat} {U : List Nat} (h : R8 low high ws U) {wish : Nat} (hw : wish < 65536) : fsb (fr ws wish) (Go.Proofs.YtdjncjijgiemgaaDoor.els ws) = !decide (rtn low high U false wish = 0) := by
  rw [← fsb_of h.h1 h.h2, h.els, h.fre wish hw, show (rok low high U false) = rfr low high U from funext (fun n => by unfold rok; simp)]
theorem R8.fsb_pair {low high : Nat} {ws : Nat → Nat} {U : List Nat} (h : R8 low high ws U) {wish : Nat} (hw : wish < 65536) : fsb (Go.Proofs.YtdjncjijgiemgaaDoor.prs ws wish) (Go.Proofs.YtdjncjijgiemgaaDoor.prl ws (Go.Proofs.YtdjncjijgiemgaaDoor.els ws)) = !decide (rtn low high U true wish = 0) := by
  rw [← fsb_of h.h1 h.h2, h.prl, h.prs hw]

theorem But.wider {E F : Nat → Prop} {A B : World} (h : But E A B) (hEF : ∀ g, E g → F g) : But F A B := ⟨h.os, h.tape, h.output, h.size, fun k hk he => h.block k hk (fun e => he (hEF k e))⟩
/-- Both pools. -/
def PP8 (b rb low high : Nat) (ws : Nat → Nat) (U : List Nat) (W : World) : Prop := PB b W b (low : Int) (high : Int) ws ∧ (∃ v, DP (b + 1) W rb v low high U) ∧ R8 low high ws U
theorem DP.butb {b rb low high : Nat} {v : Value} {U : List Nat} {A B : World} (h : DP (b + 1) A rb v low high U) (k : But (fun g => g = b) A B) : DP (b + 1) B rb v low high U :=
  ⟨h.1, (k.block rb (Array.getElem?_eq_some_iff.1 h.2.1).1 (by have := h.1; omega)).trans h.2.1, ownsM_but h.2.2 k (fun g hg e => by omega)⟩
theorem PB.butr {b rb : Nat} {low high : Int} {ws : Nat → Nat} {A B : World} (h : PB b A b low high ws) (k : But (fun g => g = rb) A B) (hne : b ≠ rb) : PB b B b low high ws := ⟨h.1, h.2.1, (k.block b (Array.getElem?_eq_some_iff.1 h.2.2).1 hne).trans h.2.2⟩

/-- What both answer, and leave. -/
def both8 (b rb low high : Nat) (W : World) (f : Nat) (wish : Nat) (e : Ending) (W1 : World) : Prop :=
  ∃ (n er : Int), e = .returned (.tuple #[.int .u16 n, .int .i64 er]) ∧ But (fun g => g = b) W W1 ∧ Calls Tryd.prog f #[.pointer (some ⟨rb, 0, none⟩), .int .u16 (wish : Int)] W1 fun e2 W2 => e2 = .returned (.tuple #[.int .u16 n, .int .i64 er]) ∧ (∃ ws' U', PP8 b rb low high ws' U' W2) ∧ But (fun g => g = b ∨ g = rb) W W2

theorem pt8_take (b rb low high : Nat) (ws : Nat → Nat) (U : List Nat) (W : World) (h : PP8 b rb low high ws U W) (hz : Dz W) (wish : Nat) (hw : wish < 65536) :
    Calls Tryd.prog 10 #[.pointer (some ⟨b, 0, none⟩), .int .u16 (wish : Int)] W (both8 b rb low high W 31 wish) := by
  obtain ⟨hP, ⟨v, hD⟩, hR⟩ := h
  have hne : b ≠ rb := by have := hD.1; omega
  refine (take8_any b b low high ws wish W hP hw hz).mono ?_
  rintro e W1 ⟨rfl, ht, hb1⟩
  rw [hR.fsn_take hw] at ht ⊢
  have hD1 := hD.butb hb1
  refine ⟨_, _, rfl, hb1, (rTake8_any (b + 1) rb low high v U wish hR.h1 hR.h2 hR.h3 W1 hD1 hw hR.len).mono ?_⟩
  have hfb := hR.fsb_take hw
  rintro e2 W2 (⟨h0, rfl, rfl⟩ | ⟨h0, rfl, ⟨v2, hD2⟩, hb2⟩)
  · rw [h0] at hfb ⊢
    have hf : fsb (fr ws wish) (els ws) = false := by rw [hfb]; rfl
    rw [tke_f hf]
    rcases ht with ⟨_, hP1⟩ | ⟨hx, _⟩
    · exact ⟨rfl, ⟨ws, U, hP1, ⟨v, hD1⟩, hR⟩, hb1.wider (fun g hg => .inl hg)⟩
    · rw [hf] at hx; cases hx
  · have hf : fsb (fr ws wish) (els ws) = true := by rw [hfb]; simp [h0]
    rw [tke_t hf]
    rcases ht with ⟨hx, _⟩ | ⟨_, hP1⟩
    · rw [hf] at hx; cases hx
    · have hk := rok_range (rtn_rok h0)
      exact ⟨rfl, ⟨_, _, hP1.butr hb2 hne, ⟨v2, hD2⟩, hR.take hk.1 hk.2.1 hk.2.2.1⟩, (hb1.wider (fun g hg => .inl hg)).trans (hb2.wider (fun g hg => .inr hg))⟩

theorem pt8_pair (b rb low high : Nat) (ws : Nat → Nat) (U : List Nat) (W : World) (h : PP8 b rb low high ws U W) (hz : Dz W) (wish : Nat) (hw : wish < 65536) :
    Calls Tryd.prog 12 #[.pointer (some ⟨b, 0, none⟩), .int .u16 (wish : Int)] W (both8 b rb low high W 32 wish) := by
  obtain ⟨hP, ⟨v, hD⟩, hR⟩ := h
  have hne : b ≠ rb := by have := hD.1; omega
  refine (pair8_any b b low high ws wish W hP hw hz).mono ?_
  rintro e W1 ⟨rfl, ht, hb1⟩
  rw [hR.fsn_pair hw] at ht ⊢
  have hD1 := hD.butb hb1
  refine ⟨_, _, rfl, hb1, (rPair8_any (b + 1) rb low high v U wish hR.h1 hR.h2 hR.h3 W1 hD1 hw hR.len).mono ?_⟩
  have hfb := hR.fsb_pair hw
  rintro e2 W2 (⟨h0, rfl, rfl⟩ | ⟨h0, rfl, ⟨v2, hD2⟩, hb2⟩)
  · rw [h0] at hfb ⊢
    have hf : fsb (prs ws wish) (prl ws (els ws)) = false := by rw [hfb]; rfl
    rw [tke_f hf]
    rcases ht with ⟨_, hP1⟩ | ⟨hx, _⟩
    · exact ⟨rfl, ⟨ws, U, hP1, ⟨v, hD1⟩, hR⟩, hb1.wider (fun g hg => .inl hg)⟩
    · rw [hf] at hx; cases hx
  · have hf : fsb (prs ws wish) (prl ws (els ws)) = true := by rw [hfb]; simp [h0]
    rw [tke_t hf]
    rcases ht with ⟨hx, _⟩ | ⟨_, hP1⟩
    · rw [hf] at hx; cases hx
    · have hk := rok_range (rtn_rok h0)
      have hk2 := hk.2.2.2 rfl
      have hR1 := hR.take hk.1 hk.2.1 hk.2.2.1
      have hR2 := hR1.take (n := rtn low high U true wish + 1) (by omega) hk2.2.1 (fun hm => by
        rcases (mem_insU _ U _).1 hm with e | e
        · omega
        · exact hk2.2.2 e)
      exact ⟨rfl, ⟨_, _, hP1.butr hb2 hne, ⟨v2, hD2⟩, hR2⟩, (hb1.wider (fun g hg => .inl hg)).trans (hb2.wider (fun g hg => .inr hg))⟩
end Go.Proofs.YtdjncjijgiemgaaDoor

/- Both pools: Give; a deed on both (the law's do). -/
namespace Go.Proofs.YtdjncjijgiemgaaDoor
open Go.RowKit Go.Shelf
set_option maxRecDepth 100000
set_option linter.unusedVariables false
set_option linter.unusedSimpArgs false

set_option maxHeartbeats 2000000 in
theorem give_no (base b low high : Nat) (ws : Nat → Nat) (n : Nat) (w : World) (hT : PB base w b (low : Int) (high : Int) ws) (hn : n < 65536) (hh : hsP low high ws n = false) :
    Calls Tryd.prog 11 #[.pointer (some ⟨b, 0, none⟩), .int .u16 (n : Int)] w fun e w' => e = .returned (.int .i64 11) ∧ Later w w' := by
  have HH := hide (hasP_any base b low high ws n w hT hn)
  rw [hh] at HH
  clear hh
  go_enter Tryd.func11, Tryd.ntmps11
  go_wp2_with fail
  refine HH.out.mono ?_
  rintro e w1 ⟨rfl, l1⟩
  go_wp2_with fail
  go_ret
  exact ⟨rfl, l1⟩
theorem R8.has {low high : Nat} {ws : Nat → Nat} {U : List Nat} (h : R8 low high ws U) {n : Nat} (hn : n < 65536) : hsP low high ws n = decide (n ∈ U) := by
  unfold hsP
  rw [h.fre n hn]
  unfold rfr
  rw [Bool.eq_iff_iff]
  simp
  constructor
  · rintro ⟨a, b, c⟩; rcases c with c | c | c <;> first | omega | exact c
  · intro hm; have := h.inn n hm; exact ⟨this.1, this.2, .inr (.inr hm)⟩
theorem pt8_give (b rb low high : Nat) (ws : Nat → Nat) (U : List Nat) (W : World) (h : PP8 b rb low high ws U W) (n : Nat) (hn : n < 65536) :
    Calls Tryd.prog 11 #[.pointer (some ⟨b, 0, none⟩), .int .u16 (n : Int)] W fun e W1 => ∃ er : Int, e = .returned (.int .i64 er) ∧ But (fun g => g = b) W W1 ∧ Calls Tryd.prog 33 #[.pointer (some ⟨rb, 0, none⟩), .int .u16 (n : Int)] W1 fun e2 W2 => e2 = .returned (.int .i64 er) ∧ (∃ ws' U', PP8 b rb low high ws' U' W2) ∧ But (fun g => g = b ∨ g = rb) W W2 ∧ But (fun g => g = b ∨ g = rb) W1 W2 := by
  obtain ⟨hP, ⟨v, hD⟩, hR⟩ := h
  have hne : b ≠ rb := by have := hD.1; omega
  have hhs := hR.has hn
  by_cases hm : n ∈ U
  · rw [decide_eq_true hm] at hhs
    refine (give_yes b b low high ws n W hP hn hhs).mono ?_
    rintro e W1 ⟨rfl, hP1, hb1⟩
    have hD1 := hD.butb hb1
    refine ⟨_, rfl, hb1, (rGive8_any (b + 1) rb low high v U n W1 hD1 hn hR.len).mono ?_⟩
    rintro e2 W2 (⟨h0, rfl, rfl⟩ | ⟨h0, rfl, ⟨v2, hD2⟩, hb2⟩)
    · exact absurd hm h0
    · exact ⟨rfl, ⟨_, _, hP1.butr hb2 hne, ⟨v2, hD2⟩, hR.give hm⟩, (hb1.wider (fun g hg => .inl hg)).trans (hb2.wider (fun g hg => .inr hg)), hb2.wider (fun g hg => .inr hg)⟩
  · rw [decide_eq_false hm] at hhs
    refine (give_no b b low high ws n W hP hn hhs).mono ?_
    rintro e W1 ⟨rfl, l1⟩
    have hb1 : But (fun g => g = b) W W1 := But.of l1
    have hD1 := hD.butb hb1
    refine ⟨_, rfl, hb1, (rGive8_any (b + 1) rb low high v U n W1 hD1 hn hR.len).mono ?_⟩
    rintro e2 W2 (⟨h0, rfl, rfl⟩ | ⟨h0, rfl, ⟨v2, hD2⟩, hb2⟩)
    · exact ⟨rfl, ⟨ws, U, hP.later l1, ⟨v, hD1⟩, hR⟩, But.of l1, But.refl _ _⟩
    · exact absurd h0 hm

theorem PP8.later {b rb low high : Nat} {ws : Nat → Nat} {U : List Nat} {A B : World} (h : PP8 b rb low high ws U A) (l : Later A B) : PP8 b rb low high ws U B := by
  obtain ⟨hP, ⟨v, hD⟩, hR⟩ := h
  exact ⟨hP.later l, ⟨v, hD.later l⟩, hR⟩
theorem PP8.lt {b rb low high : Nat} {ws : Nat → Nat} {U : List Nat} {A : World} (h : PP8 b rb low high ws U A) : b < A.heap.size ∧ rb < A.heap.size := by
  obtain ⟨hP, ⟨v, hD⟩, hR⟩ := h
  exact ⟨hP.lt, (Array.getElem?_eq_some_iff.1 hD.2.1).1⟩

set_option maxHeartbeats 4000000 in
theorem do8_any (b rb low high : Nat) (ws : Nat → Nat) (U : List Nat) (w : World) (h : PP8 b rb low high ws U w) (hz : Dz w) (hzb : 0 < b) (kd : Int) (n : Nat) (hn : n < 65536) :
    Calls Tryd.prog 15 #[.pointer (some ⟨b, 0, none⟩), .pointer (some ⟨rb, 0, none⟩), .agg #[.int .i64 kd, .int .u16 (n : Int)]] w fun e w' => e = .returned (.bool true) ∧ (∃ ws' U', PP8 b rb low high ws' U' w') ∧ But (fun g => g = b ∨ g = rb) w w' := by
  have lb0 : Later w (w.alloc (.cells #[.int .i64 kd, .int .u16 (n : Int)] 29)) := (Below.refl _ _).alloc (Nat.le_refl _) _
  have c0 := heap_alloc_new w (.cells #[.int .i64 kd, .int .u16 (n : Int)] 29)
  have hP0 := h.later lb0
  have hz0 := hz.later lb0
  have hlt := h.lt
  have HTk := hide (fun W (h : PP8 b rb low high ws U W) (hz : Dz W) => pt8_take b rb low high ws U W h hz n hn)
  have HPr := hide (fun W (h : PP8 b rb low high ws U W) (hz : Dz W) => pt8_pair b rb low high ws U W h hz n hn)
  have HGv := hide (fun W (h : PP8 b rb low high ws U W) => pt8_give b rb low high ws U W h n hn)
  have hst : ∀ (A B : World) (o : Obj), A.heap[w.heap.size]? = some o → But (fun g => g = b) A B → B.heap[w.heap.size]? = some o := fun A B o ho k => (k.block _ (Array.getElem?_eq_some_iff.1 ho).1 (by omega)).trans ho
  have HST := hide hst
  clear h hst
  go_enter Tryd.func15, Tryd.ntmps15
  have k0 := block_cell c0
  by_cases hk0 : kd = 0
  · subst hk0
    go_wp2_with fail
    generalize w.alloc _ = w0 at *
    refine (HTk.out w0 hP0 hz0).mono ?_
    rintro e w1 ⟨x, er, rfl, hb1, hc⟩
    have c1 := HST.out _ _ _ c0 hb1
    clear k0
    have k1 := block_cell c1
    go_wp2_with fail
    refine hc.mono ?_
    rintro e w2 ⟨rfl, hP2, hb2⟩
    have hbf : But (fun g => g = b ∨ g = rb) w w2 := (But.of lb0).trans hb2
    go_wp2_with fail
    go_ret
    exact ⟨by first | rfl | simp, hP2, hbf⟩
  · by_cases hk1 : kd = 1
    · subst hk1
      go_wp2_with fail
      generalize w.alloc _ = w0 at *
      refine (HPr.out w0 hP0 hz0).mono ?_
      rintro e w1 ⟨x, er, rfl, hb1, hc⟩
      have c1 := HST.out _ _ _ c0 hb1
      clear k0
      have k1 := block_cell c1
      go_wp2_with fail
      refine hc.mono ?_
      rintro e w2 ⟨rfl, hP2, hb2⟩
      have hbf : But (fun g => g = b ∨ g = rb) w w2 := (But.of lb0).trans hb2
      go_wp2_with fail
      go_ret
      exact ⟨by first | rfl | simp, hP2, hbf⟩
    · by_cases hk2 : kd = 2
      · subst hk2
        go_upto_region 11 with fail
        clear k0
        generalize w.alloc _ = w0 at *
        refine anyT_begin (R := But (fun g => g = b ∨ g = rb)) 10 rfl (by kernel_rfl) ?_
        have ld : Later w0 w0.drew := Later.drew w0
        have cd := later_keep ld c0
        have hPd := hP0.later ld
        have lwd := lb0.trans ld
        clear c0 hP0
        generalize w0.drew = Wd at *
        have ha : ∀ v1, But (fun g => g = b ∨ g = rb) Wd v1 → ∀ j, v1.cell? ⟨w.heap.size, j, none⟩ = #[Value.int .i64 2, .int .u16 (n : Int)][j]? := fun v1 hv => block_cell ((hv.block w.heap.size (Array.getElem?_eq_some_iff.1 cd).1 (fun e => by omega)).trans cd)
        refine anyT_val (But.pre _) 0 rfl (by kernel_rfl) (by kernel_rfl) (by kernel_rfl) (fun _ _ _ _ h => h) rfl ?_; apply Exists.intro; refine ⟨fun v1 hv1 => ?_, ?_⟩; (· (go_simp; rfl)); simp only [Act.put, List.setIfInBounds_toArray, List.set_cons_zero, List.set_cons_succ]
        refine anyT_val (But.pre _) 1 rfl (by kernel_rfl) (by kernel_rfl) (by kernel_rfl) (fun _ _ _ _ h => h) rfl ?_; apply Exists.intro; refine ⟨fun v1 hv1 => ?_, ?_⟩; (· (go_simp; rfl)); simp only [Act.put, List.setIfInBounds_toArray, List.set_cons_zero, List.set_cons_succ]
        refine anyT_val (But.pre _) 2 rfl (by kernel_rfl) (by kernel_rfl) (by kernel_rfl) (fun _ _ _ _ h => h) rfl ?_; apply Exists.intro; refine ⟨fun v1 hv1 => ?_, ?_⟩; (· (go_simp; rfl)); simp only [Act.put, List.setIfInBounds_toArray, List.set_cons_zero, List.set_cons_succ]
        refine anyT_val (But.pre _) 4 rfl (by kernel_rfl) (by kernel_rfl) (by kernel_rfl) (fun _ _ _ _ h => h) rfl ?_; apply Exists.intro; refine ⟨fun v1 hv1 => ?_, ?_⟩; (· (go_simp; rfl)); simp only [Act.put, List.setIfInBounds_toArray, List.set_cons_zero, List.set_cons_succ]
        refine anyT_val (But.pre _) 5 rfl (by kernel_rfl) (by kernel_rfl) (by kernel_rfl) (fun _ _ _ _ h => h) rfl ?_; apply Exists.intro; refine ⟨fun v1 hv1 => ?_, ?_⟩; (· (go_simp; rfl)); simp only [Act.put, List.setIfInBounds_toArray, List.set_cons_zero, List.set_cons_succ]
        refine anyT_val (But.pre _) 6 rfl (by kernel_rfl) (by kernel_rfl) (by kernel_rfl) (fun _ _ _ _ h => h) rfl ?_; apply Exists.intro; refine ⟨fun v1 hv1 => ?_, ?_⟩; (· (go_simp; rfl)); simp only [Act.put, List.setIfInBounds_toArray, List.set_cons_zero, List.set_cons_succ]
        clear ha
        refine anyT_one 3 rfl (by kernel_rfl) rfl ?_
        refine wp_enter 11 #[.pointer (some ⟨b, 0, none⟩), .int .u16 (n : Int)] (by go_simp) ?_
        refine (HGv.out Wd hPd).mono ?_
        rintro e W1 ⟨er, rfl, hb1, hc⟩
        refine ⟨hb1.wider (fun g hg => .inl hg), ?_⟩
        simp only [Act.put, List.setIfInBounds_toArray, List.set_cons_zero, List.set_cons_succ]
        refine anyT_one 7 rfl (by kernel_rfl) rfl ?_
        refine wp_enter 33 #[.pointer (some ⟨rb, 0, none⟩), .int .u16 (n : Int)] (by go_simp) ?_
        refine hc.mono ?_
        rintro e W2 ⟨rfl, hP2, hb2, hb3⟩
        refine ⟨hb3, ?_⟩
        simp only [Act.put, List.setIfInBounds_toArray, List.set_cons_zero, List.set_cons_succ]
        refine anyT_val (But.pre _) 8 rfl (by kernel_rfl) (by kernel_rfl) (by kernel_rfl) (fun _ _ _ _ h => h) rfl ?_; apply Exists.intro; refine ⟨fun v1 hv1 => ?_, ?_⟩; (· (go_simp; rfl)); simp only [Act.put, List.setIfInBounds_toArray, List.set_cons_zero, List.set_cons_succ]
        refine anyT_val (But.pre _) 9 rfl (by kernel_rfl) (by kernel_rfl) (by kernel_rfl) (fun _ _ _ _ h => h) rfl ?_; apply Exists.intro; refine ⟨fun v1 hv1 => ?_, ?_⟩; (· (go_simp; rfl)); simp only [Act.put, List.setIfInBounds_toArray, List.set_cons_zero, List.set_cons_succ]
        refine anyT_done (by kernel_rfl) ?_
        have hbf : But (fun g => g = b ∨ g = rb) w W2 := (But.of lwd).trans hb2
        go_wp2_with fail
        go_ret
        exact ⟨by first | rfl | simp, hP2, hbf⟩
      · go_wp2_with fail
        generalize w.alloc _ = w0 at *
        have hbf : But (fun g => g = b ∨ g = rb) w w0 := But.of lb0
        go_ret
        exact ⟨rfl, ⟨ws, U, hP0⟩, hbf⟩
end Go.Proofs.YtdjncjijgiemgaaDoor

/- Deeds on both pools: the law's play. -/
namespace Go.Proofs.YtdjncjijgiemgaaDoor
open Go.RowKit Go.Shelf
set_option maxRecDepth 100000
set_option linter.unusedVariables false
set_option linter.unusedSimpArgs false

/-- Both pools behind deeds. -/
def PL8 (b : Nat) (W : World) (rb : Nat) : Prop := ∃ low high ws U, PP8 b rb low high ws U W
set_option maxHeartbeats 4000000 in
theorem play8_any (lo sz : Nat) (hlo : lo ≤ 65535) (hsz : sz ≤ 65535) (sv : Value) (ds : List De) (w : World) (hz : Dz w) (hI : RdE w.heap.size w sv ds) (hd : ∀ d ∈ ds, wfE d) :
    Calls Tryd.prog 7 #[.int .u16 (lo : Int), .int .u16 (sz : Int), sv] w fun e w' => Later w w' ∧ ∃ rb : Nat, e = .returned (.tuple #[.pointer (some ⟨w.heap.size, 0, none⟩), .pointer (some ⟨rb, 0, none⟩), .bool true]) ∧ PL8 w.heap.size w' rb := by
  have hzp := hz.pos
  obtain ⟨aa, ca, rfl, ha1, ha2⟩ := hI.slice
  have HI := hide hI
  have HD := hide hd
  clear hI hd
  have hlo' : (lo : Int) ≤ 65535 := by omega
  have hsz' : (sz : Int) ≤ 65535 := by omega
  go_enter Tryd.func7, Tryd.ntmps7
  go_upto_region 2 with fail
  obtain ⟨hi, hhi, hhl⟩ : ∃ hi : Nat, IntKind.u16.wrap ((lo : Int) + (sz : Int) % 200) = (hi : Int) ∧ hi ≤ 65535 := by
    refine ⟨(lo + sz % 200) % 65536, ?_, by omega⟩
    have e1 : ∀ z : Int, IntKind.u16.wrap z = z % 65536 := fun z => by simp [IntKind.wrap, IntKind.signed, IntKind.bits]
    rw [e1]
    omega
  rw [hhi]
  generalize (sz : Int) % 200 = q0 at *
  clear hhi hsz hsz'
  have hhl' : (hi : Int) ≤ 65535 := by omega
  have hcase : lo = 0 ∨ (lo ≠ 0 ∧ hi < lo) ∨ (1 ≤ lo ∧ lo ≤ hi) := by omega
  rcases hcase with rfl | ⟨ha, hb⟩ | ⟨h1, h2⟩
  case' inl =>
    go_upto_region 4 with fail
    obtain ⟨lw, hlw, hg, hhg, h1, h2, h3⟩ : ∃ lw : Nat, (10 : Int) = (lw : Int) ∧ ∃ hg : Nat, (20 : Int) = (hg : Int) ∧ 1 ≤ lw ∧ lw ≤ hg ∧ hg ≤ 65535 := ⟨10, rfl, 20, rfl, by omega, by omega, by omega⟩
    rw [show Value.int IntKind.u16 10 = Value.int IntKind.u16 (lw : Int) from by rw [← hlw], show Value.int IntKind.u16 20 = Value.int IntKind.u16 (hg : Int) from by rw [← hhg]]
    clear hlw hhg hhl hhl' hlo hlo'
  case' inr.inl =>
    have ha' : ¬ (lo : Int) = 0 := by omega
    have hb' : (hi : Int) < (lo : Int) := by omega
    go_upto_region 4 with fail
    obtain ⟨lw, hlw, hg, hhg, h1, h2, h3⟩ : ∃ lw : Nat, (10 : Int) = (lw : Int) ∧ ∃ hg : Nat, (20 : Int) = (hg : Int) ∧ 1 ≤ lw ∧ lw ≤ hg ∧ hg ≤ 65535 := ⟨10, rfl, 20, rfl, by omega, by omega, by omega⟩
    rw [show Value.int IntKind.u16 10 = Value.int IntKind.u16 (lw : Int) from by rw [← hlw], show Value.int IntKind.u16 20 = Value.int IntKind.u16 (hg : Int) from by rw [← hhg]]
    clear hlw hhg hhl hhl' ha hb ha' hb' hlo hlo'
  case' inr.inr =>
    have ha' : ¬ (lo : Int) = 0 := by omega
    have hb' : ¬ (hi : Int) < (lo : Int) := by omega
    go_upto_region 4 with fail
    obtain ⟨lw, rfl⟩ : ∃ lw : Nat, lw = lo := ⟨lo, rfl⟩
    obtain ⟨hg, rfl⟩ : ∃ hg : Nat, hg = hi := ⟨hi, rfl⟩
    have h3 := hhl
    clear hhl hhl' ha' hb' hlo hlo'
  all_goals
    have HN := hide (new8_yes lw hg h1 h2 (by omega) w)
    have HR := hide (fun W => rnew8_yes lw hg h1 h2 (by omega) W)
    have hRS := R8.start h1 h2 (show hg < 65536 by omega)
    go_wp2_with fail
    refine HN.out.mono ?_
    rintro e w1 ⟨rfl, l1, hT1⟩
    generalize hB : w.heap.size = b at *
    have l1b : Below b w w1 := by rw [← hB]; exact l1
    have hbl : b < w1.heap.size := hT1.lt
    go_wp2_with fail
    refine (HR.out w1).mono ?_
    rintro e w2 ⟨rfl, hw2⟩
    have l2 : Later w1 w2 := by rw [hw2]; exact (Below.refl _ _).alloc (Nat.le_refl _) _
    have hrb : w2.heap[w1.heap.size]? = some (.cells #[.int .i64 (lw : Int), .int .i64 (hg : Int), .slice none 0 0] 61 (0, 0)) := by rw [hw2]; exact heap_alloc_new _ _
    have hPP : PP8 b w1.heap.size lw hg (wsOf (nums lw hg)) [] w2 := ⟨hT1.later l2, ⟨_, by omega, hrb, World.ownsRow_nil _ _ _ _⟩, hRS⟩
    have L2 : Below b w w2 := l1b.trans (Below.mono l2 (by omega))
    generalize w1.heap.size = rb at *
    generalize wsOf (nums lw hg) = ws0 at *
    clear hw2 HN HR l1 l2 hT1 h1 h2 h3 hrb hRS
    go_wp2_with fail
    go_loopw [12] (fun i wr => ∃ (k : Nat) (ws : Nat → Nat) (U : List Nat), k ≤ ds.length ∧ k ≤ 100 ∧ i = .int .i64 (k : Int) ∧ PP8 b rb lw hg ws U wr ∧ Below b w wr) (fun i _ => 100 - (intOf i).toNat)
    case atStart => exact ⟨0, ws0, [], by omega, by omega, rfl, hPP, L2⟩
    case round =>
      obtain ⟨k, ws, U, hk1, hk2, rfl, hP, hbw⟩ := hrel
      have hrl : b < rb := by obtain ⟨_, ⟨v, hD⟩, _⟩ := hP; exact hD.1
      have hend : ∀ (h : ¬ (k < ds.length ∧ k < 100)), ¬ k < ds.length ∨ (k < ds.length ∧ ¬ k < 100) := fun h => by omega
      by_cases hgo : k < ds.length ∧ k < 100
      · obtain ⟨g1, g2⟩ := hgo
        have g1' : (k : Int) < ds.length := by omega
        have g2' : (k : Int) < 100 := by omega
        obtain ⟨bb, off, cp, e, _, _, hbb, hcs⟩ := (HI.out.below hbw).cells (by omega)
        simp at e
        obtain ⟨rfl, rfl⟩ := e
        have d0 := hcs k g1 0 (by omega)
        have d1 := hcs k g1 1 (by omega)
        have hwf := HD.out ds[k] (List.getElem_mem g1)
        clear hcs hend
        generalize ds[k] = r at *
        simp only [dec, List.getElem?_cons_zero, List.getElem?_cons_succ, Nat.add_zero] at d0 d1
        unfold wfE at hwf
        have HDO := hide (do8_any b rb lw hg ws U wr hP (hz.below hbw hzp) (by omega) r.k r.n.toNat (by omega))
        rw [show ((r.n.toNat : Nat) : Int) = r.n from by omega] at HDO
        go_wp2_with fail
        refine HDO.out.mono ?_
        rintro e w3 ⟨rfl, hP3, hb3⟩
        have hbw3 : Below b w w3 := hbw.trans (hb3.below (by have := hbw.size; omega) (fun g hg e => by omega))
        clear d0 d1 HDO
        go_wp2_with fail
        obtain ⟨ws3, U3, hP3⟩ := hP3
        go_roundw
        case rel => exact ⟨k + 1, ws3, U3, by omega, by omega, by go_num, hP3, hbw3⟩
        case measure => simp [intOf]; omega
      · have hPL : PL8 b wr rb := ⟨lw, hg, ws, U, hP⟩
        rcases hend hgo with h | ⟨h, h'⟩
        case' inl =>
          have h1' : ¬ (k : Int) < ds.length := by omega
          go_wp2_with fail
        case' inr =>
          have h1' : (k : Int) < ds.length := by omega
          have h2' : ¬ (k : Int) < 100 := by omega
          go_wp2_with fail
        all_goals
          refine bodyPost_ret (v := .tuple #[.pointer (some ⟨b, 0, none⟩), .pointer (some ⟨rb, 0, none⟩), .bool true]) (by simp [results, Tryd.results7, go_sem]) rfl ?_
          exact ⟨by subst hB; exact hbw, rb, rfl, hPL⟩
end Go.Proofs.YtdjncjijgiemgaaDoor

/- The document's pool: Used, Free, Fork. -/
namespace Go.Proofs.YtdjncjijgiemgaaDoor
open Go.RowKit Go.Shelf
set_option maxRecDepth 100000
set_option linter.unusedVariables false
set_option linter.unusedSimpArgs false

theorem take_snoc {U : List Nat} {q : Nat} (h : q < U.length) : U.take (q + 1) = U.take q ++ [U[q]?.getD 0] := by rw [List.getElem?_eq_getElem h]; simp
set_option maxHeartbeats 4000000 in
theorem rused8_any (base rb low high : Nat) (v : Value) (U : List Nat) (w : World) (hT : DP base w rb v low high U) (hU : U.length ≤ 90000) (hr : ∀ x ∈ U, x < 65536) :
    Calls Tryd.prog 21 #[.pointer (some ⟨rb, 0, none⟩)] w fun e w' => Later w w' ∧ ∃ u, e = .returned u ∧ w'.ownsRow w.heap.size 22 1 u U.length (u16s U) := by
  obtain ⟨sa, cap, rfl⟩ := hT.slice
  have hrb : rb < w.heap.size := (Array.getElem?_eq_some_iff.1 hT.2.1).1
  have HT := hide (fun W (h : Below w.heap.size w W) => hT.later h)
  have HR := hide hr
  have hUi : (U.length : Int) ≤ 90000 := by omega
  clear hT hr
  go_enter Tryd.func21, Tryd.ntmps21
  go_wp2_with fail
  go_loopw [3, 4] (fun l i wr => ∃ (q : Nat), q ≤ U.length ∧ i = .int .i64 (q : Int) ∧ wr.ownsRow w.heap.size 22 1 l (U.take q).length (u16s (U.take q)) ∧ Below w.heap.size w wr) (fun _ i _ => U.length - (intOf i).toNat)
  case atStart => exact ⟨0, by omega, rfl, World.ownsRow_nil _ _ _ _, Below.refl _ _⟩
  case round =>
    obtain ⟨q, hq, rfl, hOw, hbw⟩ := hrel
    have k0 := block_cell (HT.out wr hbw).2.1
    have hws := hbw.size
    have hlen : (U.take q).length = q := by simp; omega
    by_cases hql : q < U.length
    · have hql' : (q : Int) < U.length := by omega
      obtain ⟨g, rfl, hc1, hc2, hcs⟩ := (HT.out wr hbw).cellsU (by omega)
      have d1 := hcs q hql
      have hy : U[q]?.getD 0 < 65536 := HR.out _ (by rw [List.getElem?_eq_getElem hql]; exact List.getElem_mem hql)
      have HE := hide (take_snoc hql)
      clear hcs
      generalize U[q]?.getD 0 = y at *
      have hy' : (y : Int) ≤ 65535 := by omega
      generalize hM : U.take q = M at *
      obtain ⟨sl, cl, rfl⟩ := ownsN_slice hOw
      have HO := hide hOw
      have HM := hide hM
      have HL := hide hlen
      clear hOw hM hy hlen
      go_wp2_with (at_builtin; refine wpList_app16 rfl (.tmp 18) (.tmp 27) rfl w.heap.size _ M y rfl rfl HO.out hws (by have := HL.out; omega) ?_; intro g3 cp3 W6 hrow6 hb6)
      go_roundw
      case rel => exact ⟨q + 1, by omega, by go_num, by rw [HE.out]; simpa using hrow6, hbw.trans hb6⟩
      case measure => simp [intOf]; omega
    · obtain rfl : q = U.length := by omega
      rw [List.take_of_length_le (Nat.le_refl _)] at hOw
      obtain ⟨sl, cl, rfl⟩ := ownsN_slice hOw
      have HO := hide hOw
      clear hOw hlen
      go_wp2_with fail
      go_ret
      exact ⟨hbw, _, rfl, HO.out⟩

set_option maxHeartbeats 4000000 in
theorem rfreeN8_any (base rb low high : Nat) (v : Value) (U : List Nat) (c : Nat) (w : World) (hT : DP base w rb v low high U) (hc : U.length + c = high - low + 1) (hlh : low ≤ high) (hh : high < 65536) :
    Calls Tryd.prog 22 #[.pointer (some ⟨rb, 0, none⟩)] w fun e w' => e = .returned (.int .i64 (c : Int)) ∧ Later w w' := by
  obtain ⟨sa, cap, rfl⟩ := hT.slice
  have k0 := block_cell hT.2.1
  have h1 : (high : Int) ≤ 65535 := by omega
  have h2 : (low : Int) ≤ (high : Int) := by omega
  have h3 : (U.length : Int) ≤ (high : Int) - (low : Int) + 1 := by omega
  have h4 : 0 ≤ (low : Int) := by omega
  have HC : Hid ((high : Int) - (low : Int) + 1 - (U.length : Int) = (c : Int)) := by show _ = _; omega
  clear hT hc hlh hh
  go_enter Tryd.func22, Tryd.ntmps22
  go_upto_region 3 with fail
  go_quiet (fail)
  go_wp2_with fail
  go_ret
  exact ⟨by rw [← HC.out]; first | rfl | (go_num), below_draw (Later.refl _) _⟩

theorem made64 (w : World) : (w.alloc (.cells #[] 3)).ownsRow w.heap.size 3 1 (.slice (some ⟨w.heap.size, 0, none⟩) 0 0) ([] : List Nat).length (i64s []) :=
  ⟨rfl, .inr ⟨w.heap.size, 0, #[], rfl, Nat.le_refl _, heap_alloc_new w _, Nat.le_refl _, by unfold maxLen; omega, rfl, rfl⟩⟩
theorem i64s_length (l : List Nat) : (i64s l).length = l.length := by unfold i64s; simp
theorem i64s_append (l m : List Nat) : i64s (l ++ m) = i64s l ++ i64s m := by unfold i64s; simp
theorem i64s_one (l : List Nat) : ∀ u ∈ i64s l, u.oneCell' = true := fun u hu => by
  unfold i64s at hu
  obtain ⟨n, _, rfl⟩ := List.mem_map.1 hu
  rfl

/-- A copy of what is taken, in memory of its own. -/
theorem copy64 (w : World) (ty : TypeId) (base : Nat) (v : Value) (U : List Nat) (hO : w.ownsRow base 3 1 v U.length (i64s U)) (hs : U.length ≤ 100000) :
    ∃ v' w', (Builtin.append_ #[59, 59] ty #[.slice (some ⟨w.heap.size, 0, none⟩) 0 0, v]).run Tryd.prog (w.alloc (.cells #[] 3)) = .ok v' w' ∧ w'.ownsRow w.heap.size 3 1 v' U.length (i64s U) ∧ Later w w' ∧ (w.alloc (.cells #[] 3)).grownBy w' (some w.heap.size) := by
  have la : Later w (w.alloc (.cells #[] 3)) := (Below.refl _ _).alloc (Nat.le_refl _) _
  obtain ⟨i0, hi0, hz0, hz1, hz2⟩ := info_parts info_i64
  by_cases hp : 0 < U.length
  · obtain ⟨h1, ⟨e, h0⟩ | ⟨g, cp, cur, rfl, hg, hh, hl, hm, hsz, hc⟩⟩ := hO
    · omega
    obtain ⟨g', cap', w', hr, h2, h3, h4, h5⟩ := run_append_lies (P := Tryd.prog) (w.alloc (.cells #[] 3)) 59 ty w.heap.size 3 i0 _ 1 8 Tryd.underlying59 hi0 hz0 hz1 hz2 rfl (by decide) _ 0 (i64s []) (made64 w) ⟨g, 0, none⟩ U.length cp (i64s U) (by rw [i64s_length]; omega) (fun j u hj => by
      have hlt := (List.getElem?_eq_some_iff.1 hj).1
      rw [i64s_length] at hlt
      rw [show (⟨g, 0, none⟩ : Addr).add j = ⟨g, j, none⟩ from by unfold Addr.add; split <;> simp_all, block_cell (later_keep la hh) j]
      rw [← Array.getElem?_toList, ← hj, ← hc, List.getElem?_take_of_lt (by omega)]) (i64s_one U) hp (by unfold maxLen; omega) (by omega) la.size _ rfl
    refine ⟨_, w', hr, by simpa [i64s] using h2, ?_, h3⟩
    exact Below.trans la ⟨h3.os, h3.tape, h3.output, h3.size, fun k hk => h3.block k (by simp; omega) (fun e => by simp [Value.ownBlock] at e; omega)⟩
  · obtain rfl : U = [] := List.eq_nil_of_length_eq_zero (by omega)
    obtain ⟨sa, cap, rfl⟩ := ownsN_slice hO
    refine ⟨_, w.alloc (.cells #[] 3), run_append_nothing _ _ _ ty _ i0 Tryd.underlying59 hi0 _ 0 0 (by omega) (.slice sa 0 cap) ?_, made64 w, la, ⟨rfl, rfl, rfl, Nat.le_refl _, fun _ _ _ => rfl⟩⟩
    refine ⟨.inl ⟨_, Tryd.underlying59⟩, fun w' => ?_, ?_, ?_, by simp, by simp⟩ <;> cases sa <;> simp [Builtin.lenOf, Builtin.firstCells, go_sem]

set_option maxHeartbeats 4000000 in
theorem rfork8_any (base rb low high : Nat) (v : Value) (U : List Nat) (w : World) (hT : DP base w rb v low high U) (hU : U.length ≤ 90000) :
    Calls Tryd.prog 14 #[.pointer (some ⟨rb, 0, none⟩)] w fun e w' => Later w w' ∧ ∃ b' v', e = .returned (.pointer (some ⟨b', 0, none⟩)) ∧ DP w.heap.size w' b' v' low high U := by
  obtain ⟨sa, cap, rfl⟩ := hT.slice
  have hrb : rb < w.heap.size := (Array.getElem?_eq_some_iff.1 hT.2.1).1
  go_enter Tryd.func14, Tryd.ntmps14
  go_upto_region 3 with fail
  refine anyT_begin (R := But (fun g => w.heap.size ≤ g)) 17 rfl (by kernel_rfl) ?_
  have ld : Later w w.drew := Later.drew w
  have hTd := hT.later ld
  generalize w.drew = Wd at *
  have hB : ∀ v1, But (fun g => w.heap.size ≤ g) Wd v1 → ∀ j, v1.cell? ⟨rb, j, none⟩ = #[Value.int .i64 (low : Int), .int .i64 (high : Int), .slice sa U.length cap][j]? := fun v1 hv => block_cell ((hv.block rb (Array.getElem?_eq_some_iff.1 hTd.2.1).1 (by omega)).trans hTd.2.1)
  refine anyT_val (But.pre _) 0 rfl (by kernel_rfl) (by kernel_rfl) (by kernel_rfl) (fun _ _ _ _ h => h) rfl ?_; apply Exists.intro; refine ⟨fun v1 hv1 => ?_, ?_⟩; (· (go_simp; rfl)); simp only [Act.put, List.setIfInBounds_toArray, List.set_cons_zero, List.set_cons_succ]
  refine anyT_val (But.pre _) 1 rfl (by kernel_rfl) (by kernel_rfl) (by kernel_rfl) (fun _ _ _ _ h => h) rfl ?_; apply Exists.intro; refine ⟨fun v1 hv1 => ?_, ?_⟩; (· (go_simp; rfl)); simp only [Act.put, List.setIfInBounds_toArray, List.set_cons_zero, List.set_cons_succ]
  refine anyT_val (But.pre _) 2 rfl (by kernel_rfl) (by kernel_rfl) (by kernel_rfl) (fun _ _ _ _ h => h) rfl ?_; apply Exists.intro; refine ⟨fun v1 hv1 => ?_, ?_⟩; (· (go_simp; rfl)); simp only [Act.put, List.setIfInBounds_toArray, List.set_cons_zero, List.set_cons_succ]
  refine anyT_val (But.pre _) 3 rfl (by kernel_rfl) (by kernel_rfl) (by kernel_rfl) (fun _ _ _ _ h => h) rfl ?_; apply Exists.intro; refine ⟨fun v1 hv1 => ?_, ?_⟩; (· (go_simp; rfl)); simp only [Act.put, List.setIfInBounds_toArray, List.set_cons_zero, List.set_cons_succ]
  refine anyT_val (But.pre _) 4 rfl (by kernel_rfl) (by kernel_rfl) (by kernel_rfl) (fun _ _ _ _ h => h) rfl ?_; apply Exists.intro; refine ⟨fun v1 hv1 => ?_, ?_⟩; (· (go_simp; rfl)); simp only [Act.put, List.setIfInBounds_toArray, List.set_cons_zero, List.set_cons_succ]
  refine anyT_val (But.pre _) 5 rfl (by kernel_rfl) (by kernel_rfl) (by kernel_rfl) (fun _ _ _ _ h => h) rfl ?_; apply Exists.intro; refine ⟨fun v1 hv1 => ?_, ?_⟩; (· (go_simp; rfl)); simp only [Act.put, List.setIfInBounds_toArray, List.set_cons_zero, List.set_cons_succ]
  refine anyT_val (But.pre _) 6 rfl (by kernel_rfl) (by kernel_rfl) (by kernel_rfl) (fun _ _ _ _ h => h) rfl ?_; apply Exists.intro; refine ⟨fun v1 hv1 => ?_, ?_⟩; (· (go_simp; rfl)); simp only [Act.put, List.setIfInBounds_toArray, List.set_cons_zero, List.set_cons_succ]
  refine anyT_val (But.pre _) 7 rfl (by kernel_rfl) (by kernel_rfl) (by kernel_rfl) (fun _ _ _ _ h => h) rfl ?_; apply Exists.intro; refine ⟨fun v1 hv1 => ?_, ?_⟩; (· (go_simp; rfl)); simp only [Act.put, List.setIfInBounds_toArray, List.set_cons_zero, List.set_cons_succ]
  refine anyT_val (But.pre _) 9 rfl (by kernel_rfl) (by kernel_rfl) (by kernel_rfl) (fun _ _ _ _ h => h) rfl ?_; apply Exists.intro; refine ⟨fun v1 hv1 => ?_, ?_⟩; (· (go_simp; rfl)); simp only [Act.put, List.setIfInBounds_toArray, List.set_cons_zero, List.set_cons_succ]
  refine anyT_val (But.pre _) 10 rfl (by kernel_rfl) (by kernel_rfl) (by kernel_rfl) (fun _ _ _ _ h => h) rfl ?_; apply Exists.intro; refine ⟨fun v1 hv1 => ?_, ?_⟩; (· (go_simp; rfl)); simp only [Act.put, List.setIfInBounds_toArray, List.set_cons_zero, List.set_cons_succ]
  refine anyT_val (But.pre _) 11 rfl (by kernel_rfl) (by kernel_rfl) (by kernel_rfl) (fun _ _ _ _ h => h) rfl ?_; apply Exists.intro; refine ⟨fun v1 hv1 => ?_, ?_⟩; (· (go_simp; rfl)); simp only [Act.put, List.setIfInBounds_toArray, List.set_cons_zero, List.set_cons_succ]
  refine anyT_val (But.pre _) 12 rfl (by kernel_rfl) (by kernel_rfl) (by kernel_rfl) (fun _ _ _ _ h => h) rfl ?_; apply Exists.intro; refine ⟨fun v1 hv1 => ?_, ?_⟩; (· (go_simp; rfl)); simp only [Act.put, List.setIfInBounds_toArray, List.set_cons_zero, List.set_cons_succ]
  clear hB
  obtain ⟨u, W1, hrun, hrow, hlat, hgr⟩ := copy64 Wd 59 base (.slice sa U.length cap) U hTd.2.2 (by omega)
  refine anyT_one 8 rfl (by kernel_rfl) rfl ?_
  unfold Oper.wp
  go_simp
  refine ⟨But.of ((Below.refl _ _).alloc (Nat.le_refl _) _), ?_⟩
  refine anyT_one 13 rfl (by kernel_rfl) rfl ?_
  refine wp_app (.tmp 13) (.tmp 17) 59 rfl _ _ rfl rfl u W1 hrun ?_
  obtain ⟨au, cu, rfl⟩ := ownsN_slice hrow
  have hWs := ld.size
  refine ⟨⟨hgr.os, hgr.tape, hgr.output, hgr.size, fun k hk he => hgr.block k hk (fun e => he (by simp at e; omega))⟩, ?_⟩
  simp only [Act.put, List.setIfInBounds_toArray, List.set_cons_zero, List.set_cons_succ]
  clear hrun hgr
  refine anyT_val (But.pre _) 14 rfl (by kernel_rfl) (by kernel_rfl) (by kernel_rfl) (fun _ _ _ _ h => h) rfl ?_; apply Exists.intro; refine ⟨fun v1 hv1 => ?_, ?_⟩; (· (go_simp; rfl)); simp only [Act.put, List.setIfInBounds_toArray, List.set_cons_zero, List.set_cons_succ]
  refine anyT_one 15 rfl (by kernel_rfl) rfl ?_
  have la : Later W1 (W1.alloc (.cells #[.int .i64 (low : Int), .int .i64 (high : Int), .slice au U.length cu] 61)) := (Below.refl _ _).alloc (Nat.le_refl _) _
  have hn := heap_alloc_new W1 (.cells #[.int .i64 (low : Int), .int .i64 (high : Int), .slice au U.length cu] 61)
  have hr := ownsN_ct hrow (CT.of la)
  unfold Oper.wp
  go_simp
  refine ⟨But.of la, ?_⟩
  refine anyT_val (But.pre _) 16 rfl (by kernel_rfl) (by kernel_rfl) (by kernel_rfl) (fun _ _ _ _ h => h) rfl ?_; apply Exists.intro; refine ⟨fun v1 hv1 => ?_, ?_⟩; (· (go_simp; rfl)); simp only [Act.put, List.setIfInBounds_toArray, List.set_cons_zero, List.set_cons_succ]
  refine anyT_done (by kernel_rfl) ?_
  have hL := ld.trans (hlat.trans la)
  have hs1 := hlat.size
  have HR := hide (ownsN_mono (base' := w.heap.size) hr hWs)
  clear hr hrow la
  generalize W1.alloc _ = W2 at *
  go_wp2_with fail
  go_ret
  exact ⟨hL, _, _, rfl, by omega, hn, HR.out⟩
end Go.Proofs.YtdjncjijgiemgaaDoor

/- The walk of PoolWish. -/
namespace Go.Proofs.YtdjncjijgiemgaaDoor
open Go.RowKit Go.Shelf
set_option maxRecDepth 100000
set_option linter.unusedVariables false
set_option linter.unusedSimpArgs false

theorem ex_least (p : Nat → Bool) : ∀ N, (∃ a, a < N ∧ p a = true ∧ ∀ m, m < a → p m = false) ∨ ∀ m, m < N → p m = false
  | 0 => .inr (fun m h => by omega)
  | N + 1 => by
    rcases ex_least p N with ⟨a, h1, h2, h3⟩ | h
    · exact .inl ⟨a, by omega, h2, h3⟩
    · cases hp : p N with
      | true => exact .inl ⟨N, by omega, hp, h⟩
      | false => exact .inr (fun m hm => by
          by_cases e : m = N
          · rw [e]; exact hp
          · exact h m (by omega))

end Go.Proofs.YtdjncjijgiemgaaDoor

/- The walk of PoolPairs. -/
namespace Go.Proofs.YtdjncjijgiemgaaDoor
open Go.RowKit Go.Shelf
set_option maxRecDepth 100000
set_option linter.unusedVariables false
set_option linter.unusedSimpArgs false

/-- Pair, in two cases: two are given that were free, or there are none. -/
def pr2 (base : Nat) (w : World) (b low high : Nat) (ws : Nat → Nat) (e : Ending) (w' : World) : Prop :=
  (∃ n, n + 1 < 65536 ∧ n % 2 = 0 ∧ fr ws n = true ∧ fr ws (n + 1) = true ∧ e = .returned (.tuple #[.int .u16 (n : Int), .int .i64 0]) ∧ PB base w' b (low : Int) (high : Int) (wsR (wsR ws n) (n + 1)) ∧ But (fun g => g = b) w w') ∨ (e = .returned (.tuple #[.int .u16 0, .int .i64 9]) ∧ PB base w' b (low : Int) (high : Int) ws ∧ But (fun g => g = b) w w')
theorem prs_parts {ws : Nat → Nat} {n : Nat} (h : prs ws n = true) (hn : n < 65536) : n + 1 < 65536 ∧ n % 2 = 0 ∧ fr ws n = true ∧ fr ws (n + 1) = true := by
  unfold prs at h
  simp at h
  exact ⟨by omega, h.1, h.2.1, h.2.2⟩
theorem pair_two (base b low high : Nat) (ws : Nat → Nat) (wish : Nat) (w : World) (hT : PB base w b (low : Int) (high : Int) ws) (hz : Dz w) (hw : wish < 65536) :
    Calls Tryd.prog 12 #[.pointer (some ⟨b, 0, none⟩), .int .u16 (wish : Int)] w (pr2 base w b low high ws) := by
  refine (pair8_any base b low high ws wish w hT hw hz).mono ?_
  rintro e w' ⟨rfl, ht, hbt⟩
  rcases ht with ⟨h1, h2⟩ | ⟨h1, h2⟩
  · right
    rw [tke_f h1]
    refine ⟨?_, h2, hbt⟩
    unfold fsb at h1
    unfold fsn
    cases hq : prs ws wish with
    | true => rw [hq] at h1; simp at h1
    | false =>
      rw [hq] at h1
      cases hL : prl ws (els ws) with
      | nil => rfl
      | cons x L => rw [hL] at h1; simp at h1
  · left
    rw [tke_t h1]
    have hp : prs ws (fsn (prs ws wish) wish (prl ws (els ws))) = true ∧ fsn (prs ws wish) wish (prl ws (els ws)) < 65536 := by
      refine ⟨?_, (pair_lim hw h1).1⟩
      unfold fsb at h1
      unfold fsn
      cases hq : prs ws wish with
      | true => exact hq
      | false =>
        rw [hq] at h1
        cases hL : prl ws (els ws) with
        | nil => rw [hL] at h1; simp at h1
        | cons x L =>
          have hx : x ∈ prl ws (els ws) := by rw [hL]; simp
          simpa using (List.mem_filter.1 hx).2
    obtain ⟨q1, q2, q3, q4⟩ := prs_parts hp.1 hp.2
    exact ⟨_, q1, q2, q3, q4, rfl, h2, hbt⟩
theorem hsP_free {low high : Nat} {ws : Nat → Nat} {n : Nat} (h : fr ws n = true) : hsP low high ws n = false := by unfold hsP; simp [h]
theorem hsP_gone {low high : Nat} {ws : Nat → Nat} {n : Nat} (h1 : low ≤ n) (h2 : n ≤ high) (h : fr ws n = false) : hsP low high ws n = true := by unfold hsP; simp [h, h1, h2]
theorem R8.rng {low high : Nat} {ws : Nat → Nat} {U : List Nat} (h : R8 low high ws U) {n : Nat} (hn : n < 65536) (hf : fr ws n = true) : low ≤ n ∧ n ≤ high := by
  rw [h.fre n hn] at hf
  unfold rfr at hf
  simp at hf
  exact ⟨hf.1, hf.2.1⟩

set_option maxHeartbeats 8000000 in
theorem walk_PoolPairs (w : World) (hz : Dz w) (low : Int) (hl : 0 ≤ low ∧ low ≤ 65535) (size : Int) (hs : 0 ≤ size ∧ size ≤ 65535) (sv : Value) (ds : List De) (hd : ∀ d ∈ ds, wfE d) (hI : RdE w.heap.size w sv ds) :
    Calls Tryd.prog 6 #[.int .u16 low, .int .u16 size, sv] w fun e w' => e = .returned (.bool true) ∧ Below w.heap.size w w' := by
  obtain ⟨lo, rfl⟩ : ∃ lo : Nat, low = (lo : Int) := ⟨low.toNat, by omega⟩
  obtain ⟨sz, rfl⟩ : ∃ sz : Nat, size = (sz : Int) := ⟨size.toNat, by omega⟩
  have HPL := hide (play8_any lo sz (by omega) (by omega) sv ds w hz hI hd)
  obtain ⟨aa, ca, rfl, ha1, ha2⟩ := hI.slice
  have HI := hide hI
  have HD := hide hd
  clear hI hd
  go_enter Tryd.func6, Tryd.ntmps6
  go_wp2_with fail
  refine HPL.out.mono ?_
  rintro e w1 ⟨l1, rb, rfl, lw, hg, ws, U, hT1, _, hR⟩
  have hz1 := hz.later l1
  clear HPL
  go_wp2_with fail
  refine (live8_any w1 hz1).mono ?_
  rintro e w2 ⟨rfl, l2⟩
  have L2 : Later w1 w2 := l2
  have lw2 : Later w w2 := l1.trans L2
  have hT2 := hT1.later L2
  have hz2 := hz1.later L2
  have hbl := hT2.lt
  clear l2 hz1 hT1
  generalize hB : w.heap.size = b at *
  have lb2 : Below b w w2 := by rw [← hB]; exact lw2
  have hcase : ds = [] ∨ 0 < ds.length := by cases ds <;> simp
  rcases hcase with rfl | hpos
  case' inl =>
    go_upto_region 7 with fail
    obtain ⟨wi, hwi, hwl⟩ : ∃ wi : Nat, (lo : Int) = (wi : Int) ∧ wi < 65536 := ⟨lo, rfl, by omega⟩
    rw [hwi]
    clear hl hwi
  case' inr =>
    have hpos' : (0 : Int) < ds.length := by omega
    obtain ⟨bb, off, cp, e, _, _, hbb, hcs⟩ := (HI.out.below lb2).cells hpos
    simp at e
    obtain ⟨rfl, rfl⟩ := e
    have d1 := hcs 0 hpos 1 (by omega)
    have hwf := HD.out ds[0] (List.getElem_mem hpos)
    clear hcs
    generalize ds[0] = r at *
    simp only [dec, List.getElem?_cons_zero, List.getElem?_cons_succ, Nat.zero_mul, Nat.add_zero] at d1
    unfold wfE at hwf
    obtain ⟨wi, hwi, hwl⟩ : ∃ wi : Nat, r.n = (wi : Int) ∧ wi < 65536 := ⟨r.n.toNat, by omega, by omega⟩
    rw [hwi] at d1
    clear hl hwi hwf
    go_upto_region 7 with fail
    clear d1 hpos'
  all_goals
    go_wp2_with fail
    refine (fork8_any b b (lw : Int) (hg : Int) ws w2 hT2).mono ?_
    rintro e w3 ⟨l3, rfl, hF3⟩
    have hT3 := hT2.later l3
    have hz3 := hz2.later l3
    have hwi6 : (wi : Int) ≤ 65535 := by omega
    have hne : b ≠ w2.heap.size := by omega
    have lb3 : Below b w w3 := lb2.trans (Below.mono l3 (by omega))
    generalize w2.heap.size = fb at *
    have hfb : b < fb := by omega
    have HPR := hide (pair_two b b lw hg ws wi w3 hT3 hz3 hwl)
    go_wp2_with fail
    refine HPR.out.mono ?_
    rintro e w4 (⟨n, hn1, hn2, hf1, hf2, rfl, hT4, hb4⟩ | ⟨rfl, hT4, hb4⟩)
    · have lb4 : Below b w w4 := lb3.trans (hb4.below (by have := lb3.size; have := hT3.lt; omega) (fun g hg e => by omega))
      have hF4 : PB fb w4 fb (lw : Int) (hg : Int) ws := hF3.butr hb4 (fun e => hne e.symm)
      have hz4 : Dz w4 := hz.below lb4 (by rw [← hB]; exact hz.pos)
      have hr1 := hR.rng (by omega) hf1
      have hr2 := hR.rng (by omega) hf2
      have c1 := cnt_remove ws n (by omega) hf1
      have c3 := cnt_remove (wsR ws n) (n + 1) (by omega) (by rw [fr_wsR]; simp [hf2])
      have hg1 : fr (wsR (wsR ws n) (n + 1)) n = false := by rw [fr_wsR, fr_wsR]; simp
      have hg2 : fr (wsR (wsR ws n) (n + 1)) (n + 1) = false := by rw [fr_wsR]; simp
      have HG1 := hide (hsP_gone hr1.1 hr1.2 hg1)
      have HG2 := hide (hsP_gone hr2.1 hr2.2 hg2)
      have HF1 := hide (hsP_free (low := lw) (high := hg) hf1)
      have HF2 := hide (hsP_free (low := lw) (high := hg) hf2)
      generalize wsR (wsR ws n) (n + 1) = ws2 at *
      have hct : cnt ws 1024 = cnt ws2 1024 + 2 := by omega
      have hcb := cnt_le ws2 1024
      have HHT := hide (fun W (h : PB b W b (lw : Int) (hg : Int) ws2) => hasP_any b b lw hg ws2 n W h (by omega))
      have HHT2 := hide (fun W (h : PB b W b (lw : Int) (hg : Int) ws2) => hasP_any b b lw hg ws2 (n + 1) W h (by omega))
      have HHF := hide (fun W (h : PB fb W fb (lw : Int) (hg : Int) ws) => hasP_any fb fb lw hg ws n W h (by omega))
      have HHF2 := hide (fun W (h : PB fb W fb (lw : Int) (hg : Int) ws) => hasP_any fb fb lw hg ws (n + 1) W h (by omega))
      have HHW := hide (fun W (h : PB fb W fb (lw : Int) (hg : Int) ws) => hasP_any fb fb lw hg ws wi W h (by omega))
      rw [HG1.out] at HHT
      rw [HG2.out, show ((n + 1 : Nat) : Int) = (n : Int) + 1 from by omega] at HHT2
      rw [HF1.out] at HHF
      rw [HF2.out, show ((n + 1 : Nat) : Int) = (n : Int) + 1 from by omega] at HHF2
      have hn1' : (n : Int) + 1 ≤ 65535 := by omega
      have hn2' : (n : Int) % 2 = 0 := by omega
      clear c1 c3 hg1 hg2 hf1 hf2 HG1 HG2 HPR hb4 hT3 hF3 hz3 hr1 hr2 hR hT2 hz2 lb2 lb3 lw2
      have HFT := hide (fun W (h : PB b W b (lw : Int) (hg : Int) ws2) => free8_any b b (lw : Int) (hg : Int) ws2 _ rfl W h)
      have HFF := hide (fun W (h : PB fb W fb (lw : Int) (hg : Int) ws) => free8_any fb fb (lw : Int) (hg : Int) ws _ rfl W h)
      rw [hct] at HFF
      clear hct
      generalize cnt ws2 1024 = c2 at *
      have hcb' : (c2 : Int) ≤ 65536 := by omega
      rw [show ((c2 + 2 : Nat) : Int) = (c2 : Int) + 2 from by omega] at HFF
      clear hcb
      by_cases hwn : wi = n
      · subst hwn
        have hw7 : (wi : Int) < 65535 := by omega
        clear HHW
        go_wp2_with fail
        refine (HHF.out w4 hF4).mono ?_; rintro e w5 ⟨rfl, lk⟩; have hT5 := hT4.later lk; have hF5 := hF4.later lk; have lb5 : Below b w w5 := lb4.trans (lk.mono (by have := hT4.lt; omega)); clear lk; go_wp2_with fail
        refine (HHF2.out w5 hF5).mono ?_; rintro e w6 ⟨rfl, lk⟩; have hT6 := hT5.later lk; have hF6 := hF5.later lk; have lb6 : Below b w w6 := lb5.trans (lk.mono (by have := hT5.lt; omega)); clear lk; go_wp2_with fail
        refine (HHF.out w6 hF6).mono ?_; rintro e w7 ⟨rfl, lk⟩; have hT7 := hT6.later lk; have hF7 := hF6.later lk; have lb7 : Below b w w7 := lb6.trans (lk.mono (by have := hT6.lt; omega)); clear lk; go_wp2_with fail
        refine (HHF2.out w7 hF7).mono ?_; rintro e w8 ⟨rfl, lk⟩; have hT8 := hT7.later lk; have hF8 := hF7.later lk; have lb8 : Below b w w8 := lb7.trans (lk.mono (by have := hT7.lt; omega)); clear lk; go_wp2_with fail
        refine (HHT.out w8 hT8).mono ?_; rintro e w9 ⟨rfl, lk⟩; have hT9 := hT8.later lk; have hF9 := hF8.later lk; have lb9 : Below b w w9 := lb8.trans (lk.mono (by have := hT8.lt; omega)); clear lk; go_wp2_with fail
        refine (HHT2.out w9 hT9).mono ?_; rintro e w10 ⟨rfl, lk⟩; have hT10 := hT9.later lk; have hF10 := hF9.later lk; have lb10 : Below b w w10 := lb9.trans (lk.mono (by have := hT9.lt; omega)); clear lk; go_wp2_with fail
        refine (HFT.out w10 hT10).mono ?_
        rintro e w11 ⟨rfl, rfl⟩
        go_wp2_with fail
        refine (HFF.out _ hF10).mono ?_
        rintro e w12 ⟨rfl, rfl⟩
        go_wp2_with fail
        go_ret
        exact ⟨by first | rfl | (simp; done) | (simp; omega), by rw [hB]; exact lb10⟩
      · have hwn' : ¬ (n : Int) = (wi : Int) := by omega
        by_cases hev : wi % 2 = 0
        · have hev' : (wi : Int) % 2 = 0 := by omega
          have hw7 : (wi : Int) < 65535 := by omega
          have hw8 : (wi : Int) + 1 ≤ 65535 := by omega
          have HHW2 := hide (fun W (h : PB fb W fb (lw : Int) (hg : Int) ws) => hasP_any fb fb lw hg ws (wi + 1) W h (by omega))
          rw [show ((wi + 1 : Nat) : Int) = (wi : Int) + 1 from by omega] at HHW2
          generalize hsP lw hg ws wi = q1 at *
          generalize hsP lw hg ws (wi + 1) = q2 at *
          clear hwn hev
          cases q1 with
          | true =>
            clear HHW2
            go_wp2_with fail
            refine (HHW.out w4 hF4).mono ?_; rintro e w5 ⟨rfl, lk⟩; have hT5 := hT4.later lk; have hF5 := hF4.later lk; have lb5 : Below b w w5 := lb4.trans (lk.mono (by have := hT4.lt; omega)); clear lk; go_wp2_with fail
            refine (HHF.out w5 hF5).mono ?_; rintro e w6 ⟨rfl, lk⟩; have hT6 := hT5.later lk; have hF6 := hF5.later lk; have lb6 : Below b w w6 := lb5.trans (lk.mono (by have := hT5.lt; omega)); clear lk; go_wp2_with fail
            refine (HHF2.out w6 hF6).mono ?_; rintro e w7 ⟨rfl, lk⟩; have hT7 := hT6.later lk; have hF7 := hF6.later lk; have lb7 : Below b w w7 := lb6.trans (lk.mono (by have := hT6.lt; omega)); clear lk; go_wp2_with fail
            refine (HHT.out w7 hT7).mono ?_; rintro e w8 ⟨rfl, lk⟩; have hT8 := hT7.later lk; have hF8 := hF7.later lk; have lb8 : Below b w w8 := lb7.trans (lk.mono (by have := hT7.lt; omega)); clear lk; go_wp2_with fail
            refine (HHT2.out w8 hT8).mono ?_; rintro e w9 ⟨rfl, lk⟩; have hT9 := hT8.later lk; have hF9 := hF8.later lk; have lb9 : Below b w w9 := lb8.trans (lk.mono (by have := hT8.lt; omega)); clear lk; go_wp2_with fail
            refine (HFT.out w9 hT9).mono ?_
            rintro e w11 ⟨rfl, rfl⟩
            go_wp2_with fail
            refine (HFF.out _ hF9).mono ?_
            rintro e w12 ⟨rfl, rfl⟩
            go_wp2_with fail
            go_ret
            exact ⟨by first | rfl | (simp; done) | (simp; omega), by rw [hB]; exact lb9⟩
          | false =>
            go_wp2_with fail
            refine (HHW.out w4 hF4).mono ?_; rintro e w5 ⟨rfl, lk⟩; have hT5 := hT4.later lk; have hF5 := hF4.later lk; have lb5 : Below b w w5 := lb4.trans (lk.mono (by have := hT4.lt; omega)); clear lk; go_wp2_with fail
            cases q2 with
            | true =>
              refine (HHW2.out w5 hF5).mono ?_; rintro e w6 ⟨rfl, lk⟩; have hT6 := hT5.later lk; have hF6 := hF5.later lk; have lb6 : Below b w w6 := lb5.trans (lk.mono (by have := hT5.lt; omega)); clear lk; go_wp2_with fail
              refine (HHF.out w6 hF6).mono ?_; rintro e w7 ⟨rfl, lk⟩; have hT7 := hT6.later lk; have hF7 := hF6.later lk; have lb7 : Below b w w7 := lb6.trans (lk.mono (by have := hT6.lt; omega)); clear lk; go_wp2_with fail
              refine (HHF2.out w7 hF7).mono ?_; rintro e w8 ⟨rfl, lk⟩; have hT8 := hT7.later lk; have hF8 := hF7.later lk; have lb8 : Below b w w8 := lb7.trans (lk.mono (by have := hT7.lt; omega)); clear lk; go_wp2_with fail
              refine (HHT.out w8 hT8).mono ?_; rintro e w9 ⟨rfl, lk⟩; have hT9 := hT8.later lk; have hF9 := hF8.later lk; have lb9 : Below b w w9 := lb8.trans (lk.mono (by have := hT8.lt; omega)); clear lk; go_wp2_with fail
              refine (HHT2.out w9 hT9).mono ?_; rintro e w10 ⟨rfl, lk⟩; have hT10 := hT9.later lk; have hF10 := hF9.later lk; have lb10 : Below b w w10 := lb9.trans (lk.mono (by have := hT9.lt; omega)); clear lk; go_wp2_with fail
              refine (HFT.out w10 hT10).mono ?_
              rintro e w11 ⟨rfl, rfl⟩
              go_wp2_with fail
              refine (HFF.out _ hF10).mono ?_
              rintro e w12 ⟨rfl, rfl⟩
              go_wp2_with fail
              go_ret
              exact ⟨by first | rfl | (simp; done) | (simp; omega), by rw [hB]; exact lb10⟩
            | false =>
              refine (HHW2.out w5 hF5).mono ?_; rintro e w6 ⟨rfl, lk⟩; have hT6 := hT5.later lk; have hF6 := hF5.later lk; have lb6 : Below b w w6 := lb5.trans (lk.mono (by have := hT5.lt; omega)); clear lk; go_wp2_with fail
              refine (HHF.out w6 hF6).mono ?_; rintro e w7 ⟨rfl, lk⟩; have hT7 := hT6.later lk; have hF7 := hF6.later lk; have lb7 : Below b w w7 := lb6.trans (lk.mono (by have := hT6.lt; omega)); clear lk; go_wp2_with fail
              refine (HHF2.out w7 hF7).mono ?_; rintro e w8 ⟨rfl, lk⟩; have hT8 := hT7.later lk; have hF8 := hF7.later lk; have lb8 : Below b w w8 := lb7.trans (lk.mono (by have := hT7.lt; omega)); clear lk; go_wp2_with fail
              refine (HHT.out w8 hT8).mono ?_; rintro e w9 ⟨rfl, lk⟩; have hT9 := hT8.later lk; have hF9 := hF8.later lk; have lb9 : Below b w w9 := lb8.trans (lk.mono (by have := hT8.lt; omega)); clear lk; go_wp2_with fail
              refine (HHT2.out w9 hT9).mono ?_; rintro e w10 ⟨rfl, lk⟩; have hT10 := hT9.later lk; have hF10 := hF9.later lk; have lb10 : Below b w w10 := lb9.trans (lk.mono (by have := hT9.lt; omega)); clear lk; go_wp2_with fail
              refine (HFT.out w10 hT10).mono ?_
              rintro e w11 ⟨rfl, rfl⟩
              go_wp2_with fail
              refine (HFF.out _ hF10).mono ?_
              rintro e w12 ⟨rfl, rfl⟩
              go_wp2_with fail
              go_ret
              exact ⟨by first | rfl | (simp; done) | (simp; omega), by rw [hB]; exact lb10⟩
        · have hev' : ¬ (wi : Int) % 2 = 0 := by omega
          clear hwn hev HHW
          go_wp2_with fail
          refine (HHF.out w4 hF4).mono ?_; rintro e w5 ⟨rfl, lk⟩; have hT5 := hT4.later lk; have hF5 := hF4.later lk; have lb5 : Below b w w5 := lb4.trans (lk.mono (by have := hT4.lt; omega)); clear lk; go_wp2_with fail
          refine (HHF2.out w5 hF5).mono ?_; rintro e w6 ⟨rfl, lk⟩; have hT6 := hT5.later lk; have hF6 := hF5.later lk; have lb6 : Below b w w6 := lb5.trans (lk.mono (by have := hT5.lt; omega)); clear lk; go_wp2_with fail
          refine (HHT.out w6 hT6).mono ?_; rintro e w7 ⟨rfl, lk⟩; have hT7 := hT6.later lk; have hF7 := hF6.later lk; have lb7 : Below b w w7 := lb6.trans (lk.mono (by have := hT6.lt; omega)); clear lk; go_wp2_with fail
          refine (HHT2.out w7 hT7).mono ?_; rintro e w8 ⟨rfl, lk⟩; have hT8 := hT7.later lk; have hF8 := hF7.later lk; have lb8 : Below b w w8 := lb7.trans (lk.mono (by have := hT7.lt; omega)); clear lk; go_wp2_with fail
          refine (HFT.out w8 hT8).mono ?_
          rintro e w11 ⟨rfl, rfl⟩
          go_wp2_with fail
          refine (HFF.out _ hF8).mono ?_
          rintro e w12 ⟨rfl, rfl⟩
          go_wp2_with fail
          go_ret
          exact ⟨by first | rfl | (simp; done) | (simp; omega), by rw [hB]; exact lb8⟩
    · have lb4 : Below b w w4 := lb3.trans (hb4.below (by have := lb3.size; have := hT3.lt; omega) (fun g hg e => by omega))
      have hF4 : PB fb w4 fb (lw : Int) (hg : Int) ws := hF3.butr hb4 (fun e => hne e.symm)
      have HFR := hide (free8_any b b (lw : Int) (hg : Int) ws _ rfl w4 hT4)
      have HFF := hide (free8_any fb fb (lw : Int) (hg : Int) ws _ rfl w4 hF4)
      generalize cnt ws 1024 = c0 at *
      go_wp2_with fail
      refine HFR.out.mono ?_
      rintro e w6 ⟨rfl, rfl⟩
      go_wp2_with fail
      refine HFF.out.mono ?_
      rintro e w6 ⟨rfl, rfl⟩
      go_wp2_with fail
      go_ret
      exact ⟨by first | rfl | (simp; done) | (simp; omega), by rw [hB]; exact lb4⟩
end Go.Proofs.YtdjncjijgiemgaaDoor

/- The law's same of both pools; the walks of PoolPlays, PoolBack. -/
namespace Go.Proofs.YtdjncjijgiemgaaDoor
open Go.RowKit Go.Shelf
set_option maxRecDepth 100000
set_option linter.unusedVariables false
set_option linter.unusedSimpArgs false

theorem up_eq : ∀ (A B : List Nat), A.Pairwise (· < ·) → B.Pairwise (· < ·) → (∀ x, x ∈ A ↔ x ∈ B) → A = B
  | [], [], _, _, _ => rfl
  | [], b :: B, _, _, h => by have := (h b).2 (by simp); simp at this
  | a :: A, [], _, _, h => by have := (h a).1 (by simp); simp at this
  | a :: A, b :: B, hA, hB, h => by
    have hA' := List.pairwise_cons.1 hA
    have hB' := List.pairwise_cons.1 hB
    have e : a = b := by
      have h1 := (h a).1 (by simp)
      have h2 := (h b).2 (by simp)
      rcases List.mem_cons.1 h1 with e | e
      · exact e
      · rcases List.mem_cons.1 h2 with e2 | e2
        · exact e2.symm
        · have := hB'.1 a e
          have := hA'.1 b e2
          omega
    subst e
    rw [up_eq A B hA'.2 hB'.2 (fun x => ⟨fun hx => by
      rcases List.mem_cons.1 ((h x).1 (by simp [hx])) with e | e
      · have := hA'.1 x hx; omega
      · exact e, fun hx => by
      rcases List.mem_cons.1 ((h x).2 (by simp [hx])) with e | e
      · have := hB'.1 x hx; omega
      · exact e⟩)]
theorem nums_up (low high : Nat) : (nums low high).Pairwise (· < ·) := by
  unfold nums
  rw [List.pairwise_map]
  exact List.Pairwise.imp (fun h => by omega) List.pairwise_lt_range
theorem R8.usd {low high : Nat} {ws : Nat → Nat} {U : List Nat} (h : R8 low high ws U) : usd low high ws = U := by
  refine up_eq _ _ ?_ h.up (fun x => ?_)
  · unfold Go.Proofs.YtdjncjijgiemgaaDoor.usd usf
    exact (nums_up low high).sublist List.filter_sublist
  · unfold Go.Proofs.YtdjncjijgiemgaaDoor.usd usf
    rw [List.mem_filter, mem_nums h.h2]
    have := h.h3
    constructor
    · rintro ⟨h1, h2⟩
      rw [h.has (by omega)] at h2
      simpa using h2
    · intro hx
      have := h.inn x hx
      refine ⟨this, ?_⟩
      rw [h.has (by omega)]
      simpa using hx
theorem R8.cnt {low high : Nat} {ws : Nat → Nat} {U : List Nat} (h : R8 low high ws U) : U.length + cnt ws 1024 = high - low + 1 := by
  have := usd_len h.h2 h.h3 (fun m hm hf => h.rng hm hf)
  rw [h.usd] at this
  exact this
theorem R8.lt {low high : Nat} {ws : Nat → Nat} {U : List Nat} (h : R8 low high ws U) : ∀ x ∈ U, x < 65536 := fun x hx => by
  have := h.inn x hx
  have := h.h3
  omega

set_option maxHeartbeats 8000000 in
theorem same8_any (b rb low high : Nat) (ws : Nat → Nat) (U : List Nat) (n : Nat) (hn : n < 65536) (w : World) (h : PP8 b rb low high ws U w) :
    Calls Tryd.prog 9 #[.pointer (some ⟨b, 0, none⟩), .pointer (some ⟨rb, 0, none⟩), .int .u16 (n : Int)] w fun e w' => e = .returned (.bool true) ∧ Later w w' := by
  obtain ⟨hP, ⟨v, hD⟩, hR⟩ := h
  have HUS := hide (used_any b b low high ws hR.h2 hR.h3 w hP)
  rw [hR.usd] at HUS
  have HRU := hide (fun W (l : Later w W) => rused8_any (b + 1) rb low high v U W (hD.later l) hR.len hR.lt)
  have HFR := hide (fun W (l : Later w W) => free8_any b b (low : Int) (high : Int) ws _ rfl W (hP.later l))
  have HRF := hide (fun W (l : Later w W) => rfreeN8_any (b + 1) rb low high v U (cnt ws 1024) W (hD.later l) hR.cnt hR.h2 hR.h3)
  have HHS := hide (fun W (l : Later w W) => hasP_any b b low high ws n W (hP.later l) hn)
  rw [hR.has hn] at HHS
  have HRH := hide (fun W (l : Later w W) => rhas8_any (b + 1) rb low high v U n W (hD.later l) hn (by have := hR.len; omega))
  have hUl := hR.len
  have hUi : (U.length : Int) ≤ 90000 := by omega
  clear hP hD hR
  generalize cnt ws 1024 = c0 at *
  generalize decide (n ∈ U) = q0 at *
  go_enter Tryd.func9, Tryd.ntmps9
  go_wp2_with fail
  refine HUS.out.mono ?_
  rintro e w1 ⟨l1, u1, rfl, hu1⟩
  clear HUS
  obtain ⟨s1, k1, rfl⟩ := ownsN_slice hu1
  have HU1 := hide hu1
  clear hu1
  go_wp2_with fail
  refine (HRU.out w1 l1).mono ?_
  rintro e w2 ⟨l2, u2, rfl, hu2⟩
  have L2 : Later w w2 := l1.trans l2
  obtain ⟨s2, k2, rfl⟩ := ownsN_slice hu2
  have HU2 := hide hu2
  have HV1 := hide (ownsN_ct HU1.out (CT.of l2))
  clear hu2 l1 l2 HRU HU1
  go_wp2_with fail
  refine (HFR.out w2 L2).mono ?_
  rintro e w3 ⟨rfl, rfl⟩
  go_wp2_with fail
  refine (HRF.out _ L2).mono ?_
  rintro e w4 ⟨rfl, l4⟩
  have L4 : Later w w4 := L2.trans l4
  have HX1 := hide (ownsN_ct HV1.out (CT.of l4))
  have HX2 := hide (ownsN_ct HU2.out (CT.of l4))
  clear l4 HV1 HU2 L2
  go_wp2_with fail
  refine (HHS.out w4 L4).mono ?_
  rintro e w5 ⟨rfl, l5⟩
  have L5 : Later w w5 := L4.trans l5
  have HY1 := hide (ownsN_ct HX1.out (CT.of l5))
  have HY2 := hide (ownsN_ct HX2.out (CT.of l5))
  clear l5 HX1 HX2 L4
  go_wp2_with fail
  refine (HRH.out w5 L5).mono ?_
  rintro e w6 ⟨rfl, rfl⟩
  go_wp2_with fail
  go_loopw [9] (fun i wr => ∃ q : Nat, q ≤ U.length ∧ i = .int .i64 (q : Int) ∧ Later w6 wr) (fun i _ => U.length - (intOf i).toNat)
  case atStart => exact ⟨0, by omega, rfl, Later.refl _⟩
  case round =>
    obtain ⟨q, hq, rfl, lr⟩ := hrel
    by_cases hql : q < U.length
    · have hql' : (q : Int) < U.length := by omega
      obtain ⟨g1, rfl, hc1, hc2, hcs1⟩ := ownsN_cell (ownsN_ct HY1.out (CT.of lr)) (by omega)
      obtain ⟨g2, rfl, hd1, hd2, hcs2⟩ := ownsN_cell (ownsN_ct HY2.out (CT.of lr)) (by omega)
      have e1 := hcs1 q hql
      have e2 := hcs2 q hql
      clear hcs1 hcs2
      generalize U[q]?.getD 0 = y at *
      go_upto_region 7 with fail
      go_quiet (fail)
      go_wp2_with fail
      go_roundw
      case rel => exact ⟨q + 1, by omega, by go_num, lr.trans (below_draw (Later.refl _) _)⟩
      case measure => simp [intOf]; omega
    · obtain rfl : q = U.length := by omega
      go_wp2_with fail
      go_ret
      exact ⟨rfl, L5.trans lr⟩
end Go.Proofs.YtdjncjijgiemgaaDoor

/- The walk of PoolForks. -/
namespace Go.Proofs.YtdjncjijgiemgaaDoor
open Go.RowKit Go.Shelf
set_option maxRecDepth 100000
set_option linter.unusedVariables false
set_option linter.unusedSimpArgs false

theorem PP8.butX {b rb fb gb low high lo2 hi2 : Nat} {ws ws2 : Nat → Nat} {U U2 : List Nat} {A B : World} (h : PP8 b rb low high ws U A) (hf : PP8 fb gb lo2 hi2 ws2 U2 A) (k : But (fun g => g = fb ∨ g = gb) A B) (h1 : b < fb) (h2 : rb < fb) : PP8 b rb low high ws U B := by
  obtain ⟨hP, ⟨v, hD⟩, hR⟩ := h
  obtain ⟨hP2, ⟨v2, hD2⟩, _⟩ := hf
  have h3 : fb < gb := hD2.1
  refine ⟨⟨hP.1, hP.2.1, (k.block b (Array.getElem?_eq_some_iff.1 hP.2.2).1 (by omega)).trans hP.2.2⟩, ⟨v, hD.1, (k.block rb (Array.getElem?_eq_some_iff.1 hD.2.1).1 (by omega)).trans hD.2.1, ?_⟩, hR⟩
  obtain ⟨q1, q2 | ⟨g, cap, cur, e, hg, hh, r⟩⟩ := hD.2.2
  · exact ⟨q1, .inl q2⟩
  · refine ⟨q1, .inr ⟨g, cap, cur, e, hg, (k.block g (Array.getElem?_eq_some_iff.1 hh).1 ?_).trans hh, r⟩⟩
    rintro (rfl | rfl)
    · have := hh.symm.trans hP2.2.2
      simp at this
    · have := hh.symm.trans hD2.2.1
      simp at this
theorem DP.mono {base base' : Nat} {A : World} {rb : Nat} {v : Value} {low high : Nat} {U : List Nat} (h : DP base A rb v low high U) (hb : base' ≤ base) : DP base' A rb v low high U := ⟨Nat.le_trans hb h.1, h.2.1, ownsN_mono h.2.2 hb⟩

set_option maxHeartbeats 8000000 in
theorem walk_PoolForks (w : World) (hz : Dz w) (size : Int) (hs : 0 ≤ size ∧ size ≤ 65535) (sv : Value) (ds : List De) (hd : ∀ d ∈ ds, wfE d) (hI : RdE w.heap.size w sv ds) (sv2 : Value) (ds2 : List De) (hd2 : ∀ d ∈ ds2, wfE d) (hI2 : RdE w.heap.size w sv2 ds2) :
    Calls Tryd.prog 5 #[.int .u16 size, sv, sv2] w fun e w' => e = .returned (.bool true) ∧ Below w.heap.size w w' := by
  obtain ⟨sz, rfl⟩ : ∃ sz : Nat, size = (sz : Int) := ⟨size.toNat, by omega⟩
  have HPL := hide (play8_any 30 sz (by omega) (by omega) sv ds w hz hI hd)
  have hz0 := hz.pos
  obtain ⟨aa, ca, rfl, ha1, ha2⟩ := hI.slice
  obtain ⟨aa2, ca2, rfl, ha3, ha4⟩ := hI2.slice
  have HI := hide hI2
  have HD := hide hd2
  clear hI hd hI2 hd2
  go_enter Tryd.func5, Tryd.ntmps5
  go_wp2_with fail
  refine HPL.out.mono ?_
  rintro e w1 ⟨l1, rb, rfl, lw, hg, ws, U, hP1⟩
  have hz1 := hz.later l1
  clear HPL
  go_wp2_with fail
  refine (live8_any w1 hz1).mono ?_
  rintro e w2 ⟨rfl, l2⟩
  have L2 : Later w1 w2 := l2
  have lw2 : Later w w2 := l1.trans L2
  have hP2 := hP1.later L2
  have hbl := hP2.lt
  clear l2 hz1 hP1
  generalize hB : w.heap.size = b at *
  have lb2 : Below b w w2 := by rw [← hB]; exact lw2
  obtain ⟨v2, hD2⟩ := hP2.2.1
  have hR := hP2.2.2
  go_wp2_with fail
  refine (fork8_any b b (lw : Int) (hg : Int) ws w2 hP2.1).mono ?_
  rintro e w3 ⟨l3, rfl, hF3⟩
  have hP3 := hP2.later l3
  have lb3 : Below b w w3 := lb2.trans (Below.mono l3 (by omega))
  have hfl := hF3.lt
  go_wp2_with fail
  refine (rfork8_any (b + 1) rb lw hg v2 U w3 (hD2.later l3) hR.len).mono ?_
  rintro e w4 ⟨l4, gb, vg, rfl, hG4⟩
  have hP4 := hP3.later l4
  have hF4 := hF3.later l4
  have lb4 : Below b w w4 := lb3.trans (Below.mono l4 (by have := lb3.size; have := hP3.lt; omega))
  have hFG : PP8 w2.heap.size gb lw hg ws U w4 := ⟨hF4, ⟨vg, hG4.mono (by omega)⟩, hR⟩
  have hb1 := hbl.1
  have hb2 := hbl.2
  clear hG4 hF4 hF3 hD2 l3 l4 lb2 lb3 hP3 hP2 lw2 hbl hfl
  generalize w2.heap.size = fb at *
  go_wp2_with fail
  go_loopw [12] (fun i wr => ∃ (k : Nat) (ws' : Nat → Nat) (U' : List Nat), k ≤ ds2.length ∧ k ≤ 40 ∧ i = .int .i64 (k : Int) ∧ PP8 fb gb lw hg ws' U' wr ∧ PP8 b rb lw hg ws U wr ∧ Below b w wr) (fun i _ => 40 - (intOf i).toNat)
  case atStart => exact ⟨0, ws, U, by omega, by omega, rfl, hFG, hP4, lb4⟩
  case round =>
    obtain ⟨k, ws', U', hk1, hk2, rfl, hPf, hP, hbw⟩ := hrel
    have hrl : fb < gb := by obtain ⟨_, ⟨v, hD⟩, _⟩ := hPf; exact hD.1
    have hend : ∀ (h : ¬ (k < ds2.length ∧ k < 40)), ¬ k < ds2.length ∨ (k < ds2.length ∧ ¬ k < 40) := fun h => by omega
    by_cases hgo : k < ds2.length ∧ k < 40
    · obtain ⟨g1, g2⟩ := hgo
      have g1' : (k : Int) < ds2.length := by omega
      have g2' : (k : Int) < 40 := by omega
      obtain ⟨bb, off, cp, e, _, _, hbb, hcs⟩ := (HI.out.below hbw).cells (by omega)
      simp at e
      obtain ⟨rfl, rfl⟩ := e
      have d0 := hcs k g1 0 (by omega)
      have d1 := hcs k g1 1 (by omega)
      have hwf := HD.out ds2[k] (List.getElem_mem g1)
      clear hcs hend
      generalize ds2[k] = r at *
      simp only [dec, List.getElem?_cons_zero, List.getElem?_cons_succ, Nat.add_zero] at d0 d1
      unfold wfE at hwf
      have HDO := hide (do8_any fb gb lw hg ws' U' wr hPf (hz.below hbw hz0) (by omega) r.k r.n.toNat (by omega))
      rw [show ((r.n.toNat : Nat) : Int) = r.n from by omega] at HDO
      go_wp2_with fail
      refine HDO.out.mono ?_
      rintro e w5 ⟨rfl, hP5, hb5⟩
      have hbw5 : Below b w w5 := hbw.trans (hb5.below (by have := hbw.size; omega) (fun g hg e => by omega))
      have hQ5 := hP.butX hPf hb5 hb1 hb2
      clear d0 d1 HDO
      go_wp2_with fail
      obtain ⟨ws3, U3, hP5⟩ := hP5
      go_roundw
      case rel => exact ⟨k + 1, ws3, U3, by omega, by omega, by go_num, hP5, hQ5, hbw5⟩
      case measure => simp [intOf]; omega
    · have HS1 := hide (same8_any b rb lw hg ws U 31 (by omega) wr hP)
      have HS2 := hide (fun W (l : Later wr W) => same8_any fb gb lw hg ws' U' 31 (by omega) W (hPf.later l))
      have hsz := hbw.size
      have hwb := hP.lt
      rcases hend hgo with h | ⟨h, h'⟩
      case' inl =>
        have h1' : ¬ (k : Int) < ds2.length := by omega
        go_wp2_with fail
      case' inr =>
        have h1' : (k : Int) < ds2.length := by omega
        have h2' : ¬ (k : Int) < 40 := by omega
        go_wp2_with fail
      all_goals
        refine HS1.out.mono ?_
        rintro e w6 ⟨rfl, l6⟩
        go_wp2_with fail
        refine (HS2.out w6 l6).mono ?_
        rintro e w7 ⟨rfl, l7⟩
        have lb7 : Below b w w7 := hbw.trans ((Later.trans l6 l7).mono (by omega))
        go_wp2_with fail
        go_ret
        exact ⟨by first | rfl | (simp; done), by rw [hB]; exact lb7⟩
end Go.Proofs.YtdjncjijgiemgaaDoor
