/- Several texts in one. -/
import Derived.Test.YtclkfmdlgffbeaaSR
import Derived.Test.YtclkfmdlgffbeaaTK
import Derived.Test.YtclkfmdlgffbeaaWA
/- The document's sack. -/
namespace Go.Proofs.Ytclkfmdlgffbeaa
open Go.RowKit Go.Shelf
set_option maxRecDepth 100000
set_option linter.unusedVariables false
set_option linter.unusedSimpArgs false

set_option maxHeartbeats 4000000 in
theorem rsack_any (sp dp sq ak fl wn ur : Int) (sO sm : Value) (os : List Opt) (w : World) (hI : RdO w.heap.size w sO os) :
    Calls Try.prog 45 #[.agg #[.int .u16 sp, .int .u16 dp, .int .u32 sq, .int .u32 ak, .int .u8 fl, .int .u16 wn, .int .u16 ur, sO, sm]] w fun e w' => Below w.heap.size w w' ∧ ((skx os = none ∧ e = .returned (.int .i64 (-1))) ∨ ∃ k : Nat, skx os = some k ∧ e = .returned (.int .i64 (k : Int))) := by
  obtain ⟨a, cap, rfl, hc1, hc2⟩ := hI.slice
  have hb0 : Below w.heap.size w (w.alloc (.cells #[.int .u16 sp, .int .u16 dp, .int .u32 sq, .int .u32 ak, .int .u8 fl, .int .u16 wn, .int .u16 ur, .slice a os.length cap, sm] 29)) := (Below.refl _ _).alloc (Nat.le_refl _) _
  have t0 := block_cell (heap_alloc_new w (.cells #[.int .u16 sp, .int .u16 dp, .int .u32 sq, .int .u32 ak, .int .u8 fl, .int .u16 wn, .int .u16 ur, .slice a os.length cap, sm] 29))
  have hlb : (os.length : Int) ≤ 9223372036854775807 := by omega
  go_enter Try.func45, Try.ntmps45
  go_wp2_with fail
  generalize w.alloc (.cells #[.int .u16 sp, .int .u16 dp, .int .u32 sq, .int .u32 ak, .int .u8 fl, .int .u16 wn, .int .u16 ur, .slice a os.length cap, sm] 29) = w0 at *
  go_loopw [3] (fun i wr => ∃ k : Nat, k ≤ os.length ∧ i = .int .i64 (k : Int) ∧ (∀ j, j < k → tlo (os[j]?.getD (0, [])) = false) ∧ wr = w0) (fun i _ => os.length - (intOf i).toNat)
  case atStart => exact ⟨0, by omega, rfl, fun j h => by omega, rfl⟩
  case round =>
    obtain ⟨k, hk, rfl, hz, rfl⟩ := hrel
    have HZ := hide hz
    clear hz
    by_cases hlt : k < os.length
    · obtain ⟨b, off, cp, e, _, _, hbb, hcs⟩ := (hI.below hb0).cells (by omega)
      simp at e
      obtain ⟨rfl, rfl⟩ := e
      obtain ⟨s, c0, c1, hRs⟩ := hcs k hlt
      obtain ⟨sa, sc, rfl, hs1, hs2⟩ := hRs.slice
      have HT : Hid (tlo (os[k]?.getD (0, [])) = telb (os[k]?.getD (0, [])).1 (os[k]?.getD (0, [])).2.length) := rfl
      have hlt' : (k : Int) < os.length := by omega
      clear hcs hRs
      generalize hgo : os[k]?.getD (0, []) = o at *
      have HGO := hide hgo
      clear hgo
      obtain ⟨kd, dt⟩ := o
      dsimp only at c0 c1 HT hs1
      generalize dt.length = n at *
      have hn64 : (n : Int) ≤ 9223372036854775807 := by omega
      by_cases k5 : kd = 5
      · subst k5
        by_cases h0 : n = 0
        · subst h0
          have HTT : Hid (tlo (5, dt) = false) := HT.out.trans (by decide)
          go_wp2_with fail; go_roundw; (case rel => exact ⟨k + 1, by omega, by go_num, fun j hj => by by_cases h : j = k; (subst h; rw [HGO.out]; exact HTT.out); exact HZ.out j (by omega), trivial⟩); (case measure => simp [intOf]; omega)
        · have h0' : (0 : Int) < n := by omega
          by_cases h32 : n ≤ 32
          · have h32' : (n : Int) ≤ 32 := by omega
            by_cases h8 : n % 8 = 0
            · have t8 : ((n : Int).tmod 8 == 0) = true := by rw [Int.tmod_eq_emod_of_nonneg (by omega)]; simp; omega
              have t9 : ((n : Int) % 8 == 0) = true := by simp; omega
              have HTT : Hid (tlo (5, dt) = true) := HT.out.trans (by unfold telb; simp; omega)
              clear h8
              go_wp2_with fail
              go_ret
              exact ⟨hb0, .inr ⟨k, skx_some hlt HZ.out (by rw [HGO.out]; exact HTT.out), rfl⟩⟩
            · have t8 : ((n : Int).tmod 8 == 0) = false := by rw [Int.tmod_eq_emod_of_nonneg (by omega)]; simp; omega
              have t9 : ((n : Int) % 8 == 0) = false := by simp; omega
              have HTT : Hid (tlo (5, dt) = false) := HT.out.trans (by unfold telb; simp; omega)
              clear h8
              go_wp2_with fail; go_roundw; (case rel => exact ⟨k + 1, by omega, by go_num, fun j hj => by by_cases h : j = k; (subst h; rw [HGO.out]; exact HTT.out); exact HZ.out j (by omega), trivial⟩); (case measure => simp [intOf]; omega)
          · have h32' : ¬ (n : Int) ≤ 32 := by omega
            have HTT : Hid (tlo (5, dt) = false) := HT.out.trans (by unfold telb; simp; omega)
            go_wp2_with fail; go_roundw; (case rel => exact ⟨k + 1, by omega, by go_num, fun j hj => by by_cases h : j = k; (subst h; rw [HGO.out]; exact HTT.out); exact HZ.out j (by omega), trivial⟩); (case measure => simp [intOf]; omega)
      · have e5 : (kd == 5) = false := by simp [k5]
        have HTT : Hid (tlo (kd, dt) = false) := HT.out.trans (by unfold telb; simp [k5])
        clear k5
        go_wp2_with fail; go_roundw; (case rel => exact ⟨k + 1, by omega, by go_num, fun j hj => by by_cases h : j = k; (subst h; rw [HGO.out]; exact HTT.out); exact HZ.out j (by omega), trivial⟩); (case measure => simp [intOf]; omega)
    · obtain rfl : k = os.length := by omega
      go_wp2_with fail
      go_ret
      exact ⟨hb0, .inl ⟨skx_none HZ.out, rfl⟩⟩
end Go.Proofs.Ytclkfmdlgffbeaa

/- Options of one's own, copied: slices.Clone, ownOptions. -/
namespace Go.Proofs.Ytclkfmdlgffbeaa
open Go.RowKit Go.Shelf
set_option maxRecDepth 100000
set_option linter.unusedVariables false
set_option linter.unusedSimpArgs false

theorem rowO_set : ∀ (os : List Opt) (ss : List Value) (m : Nat) (s : Value), ss.length = os.length → m < os.length → rowO os (ss.set m s) = (rowO os ss).set (m * 2 + 1) s
  | o :: os, x :: ss, 0, s, h, hm => by simp [rowO]
  | o :: os, x :: ss, m + 1, s, h, hm => by
    have ih := rowO_set os ss m s (by simpa using h) (by simpa using hm)
    unfold rowO at ih ⊢
    simp only [List.set_cons_succ, List.zip_cons_cons, List.flatMap_cons, List.cons_append, List.nil_append, ih]
    rw [show (m + 1) * 2 = m * 2 + 1 + 1 from by omega]
    simp
theorem rowO_kind : ∀ (os : List Opt) (ss : List Value) (m : Nat) (o : Opt), m < os.length → o.1 = (os[m]?.getD (0, [])).1 → rowO (os.set m o) ss = rowO os ss
  | x :: os, [], 0, o, _, h => by simp [rowO]
  | x :: os, [], m + 1, o, _, h => by simp [rowO]
  | x :: os, y :: ss, 0, o, _, h => by simp at h; simp [rowO, h]
  | x :: os, y :: ss, m + 1, o, hm, h => by
    have ih := rowO_kind os ss m o (by simpa using hm) (by simpa using h)
    unfold rowO at ih ⊢
    simp only [List.set_cons_succ, List.zip_cons_cons, List.flatMap_cons, ih]

/-- A cell of a row of one's own, changed. -/
theorem row_setk {base : Nat} {W : World} {v : Value} {n : Nat} {xs : List Value} (h : W.ownsRow base 57 2 v n xs) (hn : 0 < n) : ∃ g cap, v = .slice (some ⟨g, 0, none⟩) n cap ∧ n ≤ cap ∧ cap ≤ 9223372036854775807 ∧ base ≤ g ∧ (∃ cur, W.heap[g]? = some (.cells cur 57 (0, 0))) ∧ (∀ j, j < n * 2 → W.cell? ⟨g, j, none⟩ = xs[j]? ∧ W.frozen? ⟨g, j, none⟩ = false) ∧ ∀ j s, j < n * 2 → (W.setCell ⟨g, j, none⟩ s).ownsRow base 57 2 v n (xs.set j s) := by
  obtain ⟨h1, ⟨rfl, h0⟩ | ⟨g, cap, cur, rfl, hg, hh, hl, hm, hs, hc⟩⟩ := h
  · omega
  · refine ⟨g, cap, rfl, hl, by simpa [maxLen] using hm, hg, ⟨cur, hh⟩, fun j hj => ⟨?_, block_frozen hh j⟩, fun j s hj => ⟨by simpa using h1, .inr ⟨g, cap, cur.setIfInBounds j s, rfl, hg, heap_set1 hh j s, hl, hm, by simpa using hs, ?_⟩⟩⟩
    · rw [block_cell hh j, ← hc, List.getElem?_take_of_lt hj]
      simp
    · rw [Array.toList_setIfInBounds, List.take_set, hc]
theorem Ow.setO {base : Nat} {W : World} {v : Value} {zs : List Int} {g j : Nat} {s : Value} {cur : Array Value} (h : Ow base W v zs) (hg : W.heap[g]? = some (.cells cur 57 (0, 0))) : Ow base (W.setCell ⟨g, j, none⟩ s) v zs := by
  rcases h with h | ⟨g', cap, c2, h1, h2, h3, h4, h5, h6, h7⟩
  · exact .inl h
  · refine .inr ⟨g', cap, c2, h1, h2, h3, h4, h5, ?_, h7⟩
    have hne : g' ≠ g := fun e => by subst e; rw [h6] at hg; simp at hg
    exact ((But.refl (fun b => b = g) W).setCell (p := ⟨g, j, none⟩) rfl s).block g' (Array.getElem?_eq_some_iff.1 h6).1 hne |>.trans h6

/-- Options of which the first m have data of one's own, the others data that lie below. -/
def OwX (base m : Nat) (W : World) (v : Value) (os : List Opt) : Prop :=
  ∃ ss, ss.length = os.length ∧ W.ownsRow base 57 2 v os.length (rowO os ss) ∧ ∀ j, j < os.length → (j < m → Ow base W (ss[j]?.getD undef) (os[j]?.getD (0, [])).2) ∧ (m ≤ j → Rd base W (ss[j]?.getD undef) (os[j]?.getD (0, [])).2)
theorem OwX.all {base : Nat} {W : World} {v : Value} {os : List Opt} (h : OwX base os.length W v os) : OwO base W v os := by
  obtain ⟨ss, h1, h2, h3⟩ := h
  exact ⟨ss, h1, h2, fun j hj => (h3 j hj).1 hj⟩
theorem OwX.later {base m : Nat} {A B : World} {v : Value} {os : List Opt} (h : OwX base m A v os) (l : Later A B) (hb : base ≤ A.heap.size) : OwX base m B v os := by
  obtain ⟨ss, h1, h2, h3⟩ := h
  exact ⟨ss, h1, ownsRow_ck h2 (CK.of l), fun j hj => ⟨fun q => ((h3 j hj).1 q).ck (CK.of l), fun q => ((h3 j hj).2 q).below (Below.mono l hb)⟩⟩

theorem eqlO_nil (w : World) : (binOp .eql 27 (.slice none 0 0) (.slice none 0 0)).run Try.prog w = .ok (.bool true) w := by kernel_rfl

theorem eqlO_some (w : World) (ad : Addr) (n c : Nat) : (binOp .eql 27 (.slice (some ad) n c) (.slice none 0 0)).run Try.prog w = .ok (.bool false) w := by kernel_rfl

theorem own_emptyO (w : World) : (w.alloc (.cells #[] 57)).ownsRow w.heap.size 57 2 (.slice (some ⟨w.heap.size, 0, none⟩) 0 0) 0 [] :=
  World.ownsRow_made w #[] 0 (Nat.le_refl _) (by simp) rfl

/-- What options that are read are, as a row of cells. -/
theorem RdO.row {n₀ : Nat} {W : World} {a : Option Addr} {cap : Nat} {os : List Opt} (h : RdO n₀ W (.slice a os.length cap) os) (ha : a ≠ none) : ∃ ad ss, a = some ad ∧ ss.length = os.length ∧ (∀ j u, (rowO os ss)[j]? = some u → W.cell? (ad.add j) = some u) ∧ (∀ u ∈ rowO os ss, u.oneCell' = true) ∧ ∀ j, j < os.length → Rd n₀ W (ss[j]?.getD undef) (os[j]?.getD (0, [])).2 := by
  rcases h with ⟨a', cap', e, rfl, _⟩ | ⟨b, off, cap', e, hne, hl, hm, hb, hc⟩
  · cases a with
    | none => exact absurd rfl ha
    | some ad => exact ⟨ad, [], rfl, rfl, fun j u hj => by simp [rowO] at hj, fun u hu => by simp [rowO] at hu, fun j hj => by simp at hj⟩
  · simp at e
    obtain ⟨rfl, rfl⟩ := e
    obtain ⟨f, hf⟩ : ∃ f : Nat → Value, ∀ j, j < os.length → W.cell? ⟨b, off + j * 2, none⟩ = some (.int .u8 (os[j]?.getD (0, [])).1) ∧ W.cell? ⟨b, off + j * 2 + 1, none⟩ = some (f j) ∧ Rd n₀ W (f j) (os[j]?.getD (0, [])).2 := by
      refine ⟨fun j => if h : j < os.length then (hc j h).choose else undef, fun j hj => ?_⟩
      simp only [dif_pos hj]
      exact (hc j hj).choose_spec
    have hsl : ((List.range os.length).map f).length = os.length := by simp
    have hgd : ∀ j, j < os.length → ((List.range os.length).map f)[j]?.getD undef = f j := fun j hj => by simp [hj]
    have hcell : ∀ j, j < os.length * 2 → (rowO os ((List.range os.length).map f))[j]? = W.cell? ⟨b, off + j, none⟩ := fun j hj => by
      have hat := rowO_at os _ hsl (j / 2) (by omega)
      have hfj := hf (j / 2) (by omega)
      rw [hgd _ (by omega)] at hat
      by_cases h2 : j % 2 = 0
      · have e : j = j / 2 * 2 := by omega
        rw [← e] at hat hfj
        rw [hat.1, hfj.1]
      · have e : j = j / 2 * 2 + 1 := by omega
        rw [← e] at hat
        rw [Nat.add_assoc, ← e] at hfj
        rw [hat.2, hfj.2.1]
    have hlen := rowO_length os _ hsl
    refine ⟨⟨b, off, none⟩, (List.range os.length).map f, rfl, hsl, fun j u hj => ?_, fun u hu => ?_, fun j hj => by rw [hgd j hj]; exact (hf j hj).2.2⟩
    · have hjl := (List.getElem?_eq_some_iff.1 hj).1
      rw [show (⟨b, off, none⟩ : Addr).add j = ⟨b, off + j, none⟩ from by unfold Addr.add; split <;> simp_all, ← hcell j (by omega), hj]
    · obtain ⟨j, hj, hju⟩ := List.getElem_of_mem hu
      have hj' := List.getElem?_eq_getElem hj
      have hat := rowO_at os _ hsl (j / 2) (by omega)
      have hfj := hf (j / 2) (by omega)
      rw [hgd _ (by omega)] at hat
      by_cases h2 : j % 2 = 0
      · have e : j = j / 2 * 2 := by omega
        rw [← e, hj'] at hat
        have := hat.1
        simp only [hju, Option.some.injEq] at this
        rw [this]; rfl
      · have e : j = j / 2 * 2 + 1 := by omega
        rw [← e, hj'] at hat
        have := hat.2
        simp only [hju, Option.some.injEq] at this
        rw [this]
        obtain ⟨a, c, e', _⟩ := hfj.2.2.slice
        rw [e']; rfl

set_option maxHeartbeats 2000000 in
theorem cloneO_any (sv : Value) (os : List Opt) (w : World) (hl : os.length ≤ 1000) (hI : RdO w.heap.size w sv os) :
    Calls Try.prog 62 #[sv] w fun e w' => ∃ v, e = .returned v ∧ OwX w.heap.size 0 w' v os ∧ Below w.heap.size w w' := by
  obtain ⟨i0, hi, hz0, hz1, hz2⟩ := info_parts info_opt
  obtain ⟨a, cap, rfl, hl1, hm1⟩ := hI.slice
  cases a with
  | none =>
    obtain ⟨rfl, rfl⟩ : os = [] ∧ cap = 0 := by
      rcases hI with ⟨a, cap', e, hz, _, hn⟩ | ⟨_, _, _, e, _⟩
      · have e1 := e
        simp at e1
        obtain ⟨rfl, _, rfl⟩ := e1
        exact ⟨hz, hn rfl⟩
      · simp at e
    have hq := eqlO_nil w
    go_enter Try.func62, Try.ntmps62
    go_wp2
    go_ret
    exact ⟨_, rfl, ⟨[], rfl, World.ownsRow_nil _ _ _ _, fun j h => by simp at h⟩, Below.refl _ _⟩
  | some ad0 =>
    have hb0 : Below w.heap.size w (w.alloc (.cells #[] 57)) := (Below.refl _ w).alloc (Nat.le_refl _) _
    obtain ⟨ad, ss, e, hsl, hcell, hone, hrd⟩ := (hI.below hb0).row (by simp)
    obtain rfl : ad0 = ad := by simpa using e
    have hlen := rowO_length os ss hsl
    have hq := eqlO_some w ad0 os.length cap
    have HC := hide hcell
    have HO := hide hone
    have HR := hide hrd
    have HL := hide hlen
    clear hcell hone hrd hlen
    go_enter Try.func62, Try.ntmps62
    go_wp2_with (at_builtin; refine wpList_append_own _ rfl (.tmp 5) (.tmp 6) 27 rfl w.heap.size 57 i0 (.agg #[.int .u8 0, .slice none 0 0]) 2 32 Try.underlying27 hi hz0 hz1 hz2 rfl (by decide) _ 0 [] rfl (own_emptyO w) ad0 os.length cap (rowO os ss) rfl HL.out HC.out HO.out (by simp only [maxLen]; omega) (by omega) (by simp) ?_)
    intro v2 W2 hrow2 hg2 hnn
    have hw2 : Below w.heap.size w W2 := below_app hb0 (own_emptyO w) hg2 (Nat.le_refl _) (by simp)
    have hX : OwX w.heap.size 0 W2 v2 os := ⟨ss, hsl, by simpa using hrow2, fun j hj => ⟨fun h => by omega, fun _ => (HR.out j hj).below' hb0 hw2⟩⟩
    clear hrow2 hg2 hnn
    go_wp2
    go_ret
    exact ⟨_, rfl, hX, hw2⟩
end Go.Proofs.Ytclkfmdlgffbeaa

/- ownOptions; edges put in their places; WithSacks. -/
namespace Go.Proofs.Ytclkfmdlgffbeaa
open Go.RowKit Go.Shelf
set_option maxRecDepth 100000
set_option linter.unusedVariables false
set_option linter.unusedSimpArgs false

set_option maxHeartbeats 4000000 in
theorem ownO_any (sv : Value) (os : List Opt) (w : World) (hl : os.length ≤ 1000) (hz : ∀ o ∈ os, o.2.length ≤ 140737488355328) (hI : RdO w.heap.size w sv os) :
    Calls Try.prog 46 #[sv] w fun e w' => ∃ v, e = .returned v ∧ OwO w.heap.size w' v os ∧ Below w.heap.size w w' := by
  go_enter Try.func46, Try.ntmps46
  go_wp2_with fail
  refine (cloneO_any sv os w hl hI).mono ?_
  rintro e w1 ⟨v, rfl, hX, hb1⟩
  obtain ⟨a, cap, rfl, hc1, hc2⟩ : ∃ a cap, v = .slice a os.length cap ∧ os.length ≤ cap ∧ cap ≤ 9223372036854775807 := by
    obtain ⟨ss, h1, ⟨h2, ⟨rfl, h0⟩ | ⟨g, cap, cur, rfl, hg, hh, hl', hm, _⟩⟩, h3⟩ := hX
    · exact ⟨none, 0, by rw [h0], by omega, by omega⟩
    · exact ⟨_, cap, rfl, hl', by simpa [maxLen] using hm⟩
  go_wp2_with fail
  go_loopw [9] (fun i wr => ∃ m : Nat, m ≤ os.length ∧ i = .int .i64 (m : Int) ∧ OwX w.heap.size m wr (.slice a os.length cap) os ∧ Below w.heap.size w wr) (fun i _ => os.length - (intOf i).toNat)
  case atStart => exact ⟨0, by omega, rfl, hX, hb1⟩
  case round =>
    obtain ⟨m, hm, rfl, hXm, hbm⟩ := hrel
    clear hX
    by_cases hlt : m < os.length
    · obtain ⟨ss, hsl, hrow, hdat⟩ := hXm
      obtain ⟨g, cp, e, _, _, hg, ⟨cur, hcur⟩, hcell, hset⟩ := row_setk hrow (by omega)
      simp at e
      obtain ⟨rfl, rfl⟩ := e
      have hat := rowO_at os ss hsl m hlt
      obtain ⟨c0, f0⟩ := hcell (m * 2) (by omega)
      obtain ⟨c1, f1⟩ := hcell (m * 2 + 1) (by omega)
      rw [hat.1] at c0
      rw [hat.2] at c1
      have hRm := (hdat m hlt).2 (Nat.le_refl _)
      have hzm := hz (os[m]?.getD (0, [])) (by simp [hlt])
      have hlt' : (m : Int) < os.length := by omega
      have HS := hide hset
      have HD := hide hdat
      have HC := hide hcell
      have HR := hide hrow
      clear hset hdat hcell hat hrow
      obtain ⟨sa, sc, hse, _, _⟩ := hRm.slice
      have HSE := hide hse
      rw [hse] at c1 hRm
      clear hse
      generalize hdt : (os[m]?.getD (0, [])).2 = dt at *
      have HDT := hide hdt
      clear hdt
      have hgz := hbm.size
      go_wp2_with fail
      refine (cloneb_any _ dt wr hzm (hRm.mono hbm.size)).mono ?_
      rintro e w2 ⟨a2, cap2, rfl, hO2, hb2⟩
      have hl2 : Later wr w2 := hb2
      have hcur2 := later_keep hl2 hcur
      have k1 : w2.cell? ⟨g, m * 2 + 1, none⟩ = some (.slice sa dt.length sc) := hl2.cell c1
      have fz : w2.frozen? ⟨g, m * 2 + 1, none⟩ = false := block_frozen hcur2 _
      have hrow2 := ownsRow_ck HR.out (CK.of hl2)
      obtain ⟨g', cp', e', _, _, _, _, _, hset2⟩ := row_setk hrow2 (by omega)
      simp at e'
      obtain ⟨rfl, rfl⟩ := e'
      have hr3 := hset2 (m * 2 + 1) (.slice a2 dt.length cap2) (by omega)
      rw [← rowO_set os ss m _ hsl hlt] at hr3
      have hw2 := hbm.trans (hb2.mono hbm.size)
      have hw3 : Below w.heap.size w (w2.setCell ⟨g, m * 2 + 1, none⟩ (.slice a2 dt.length cap2)) := hw2.setCell (p := ⟨g, m * 2 + 1, none⟩) hg _
      have hX3 : OwX w.heap.size (m + 1) (w2.setCell ⟨g, m * 2 + 1, none⟩ (.slice a2 dt.length cap2)) (.slice (some ⟨g, 0, none⟩) os.length cap) os := by
        refine ⟨ss.set m (.slice a2 dt.length cap2), by simpa using hsl, hr3, fun j hj => ?_⟩
        by_cases hjm : j = m
        · subst hjm
          rw [List.getElem?_set_self (by omega), HDT.out]
          exact ⟨fun _ => ((hO2.mono hgz).setO hcur2), fun h => by omega⟩
        · rw [List.getElem?_set_ne (fun e => hjm e.symm)]
          exact ⟨fun h => ((((HD.out j hj).1 (by omega)).ck (CK.of hl2)).setO hcur2), fun h => (((HD.out j hj).2 (by omega)).below (hl2.mono hgz)).below ((Below.refl _ _).setCell (p := ⟨g, m * 2 + 1, none⟩) hg _)⟩
      have HX3 := hide hX3
      clear hX3 hr3 hset2 hrow2 c1 c0 f0 f1 hRm
      go_wp2_with fail
      go_roundw
      case rel => exact ⟨m + 1, by omega, by go_num, HX3.out, hw3⟩
      case measure => simp [intOf]; omega
    · obtain rfl : m = os.length := by omega
      go_wp2_with fail
      go_ret
      exact ⟨_, rfl, hXm.all, hbm⟩
end Go.Proofs.Ytclkfmdlgffbeaa

/- Edges put in their places; WithSacks. -/
namespace Go.Proofs.Ytclkfmdlgffbeaa
open Go.RowKit Go.Shelf
set_option maxRecDepth 100000
set_option linter.unusedVariables false
set_option linter.unusedSimpArgs false

def RdU (n₀ : Nat) (W : World) (sv : Value) (ns : List Int) : Prop :=
  (∃ a cap, sv = .slice a 0 cap ∧ ns = [] ∧ cap ≤ 9223372036854775807) ∨
  ∃ b off cap, sv = .slice (some ⟨b, off, none⟩) ns.length cap ∧ ns ≠ [] ∧ ns.length ≤ cap ∧ cap ≤ 9223372036854775807 ∧ b < n₀ ∧ ∀ j, j < ns.length → W.cell? ⟨b, off + j, none⟩ = some (.int .u32 (ns[j]?.getD 0))
theorem RdU.below {n₀ : Nat} {A B : World} (h : Below n₀ A B) {sv : Value} {ns : List Int} : RdU n₀ A sv ns → RdU n₀ B sv ns
  | .inl e => .inl e
  | .inr ⟨b, off, cap, e, hne, hl, hm, hb, hc⟩ => .inr ⟨b, off, cap, e, hne, hl, hm, hb, fun j hj => (h.cell (p := ⟨b, off + j, none⟩) hb).trans (hc j hj)⟩
theorem RdU.mono {n₀ n₁ : Nat} {A : World} (h : n₀ ≤ n₁) {sv : Value} {ns : List Int} : RdU n₀ A sv ns → RdU n₁ A sv ns
  | .inl e => .inl e
  | .inr ⟨b, off, cap, e, hne, hl, hm, hb, hc⟩ => .inr ⟨b, off, cap, e, hne, hl, hm, Nat.lt_of_lt_of_le hb h, hc⟩
theorem RdU.slice {n₀ : Nat} {A : World} {sv : Value} {ns : List Int} : RdU n₀ A sv ns → ∃ a cap, sv = .slice a ns.length cap ∧ ns.length ≤ cap ∧ cap ≤ 9223372036854775807
  | .inl ⟨a, cap, e, hz, hm⟩ => ⟨a, cap, by rw [e, hz]; rfl, by rw [hz]; exact Nat.zero_le _, hm⟩
  | .inr ⟨b, off, cap, e, _, hl, hm, _⟩ => ⟨_, cap, e, hl, hm⟩
theorem RdU.cells {n₀ : Nat} {w : World} {sv : Value} {ns : List Int} (h : RdU n₀ w sv ns) (hne : 0 < ns.length) : ∃ b off cap, sv = .slice (some ⟨b, off, none⟩) ns.length cap ∧ ns.length ≤ cap ∧ cap ≤ 9223372036854775807 ∧ b < n₀ ∧ ∀ j, j < ns.length → w.cell? ⟨b, off + j, none⟩ = some (.int .u32 (ns[j]?.getD 0)) := by
  rcases h with ⟨a, cap, e, hz, _⟩ | ⟨b, off, cap, e, _, hl, hm, hb, hc⟩
  · subst hz; simp at hne
  · exact ⟨b, off, cap, e, hl, hm, hb, hc⟩
theorem Ow4.rd {base : Nat} {A : World} {v : Value} {ns : List Int} (h : Ow4 base A v ns) (hm : ns.length ≤ 9223372036854775807) : RdU A.heap.size A v ns := by
  rcases h with ⟨rfl, rfl⟩ | ⟨g, rfl, h2, h3⟩
  · exact .inl ⟨_, _, rfl, rfl, by omega⟩
  · by_cases h0 : ns = []
    · subst h0
      exact .inl ⟨_, _, rfl, rfl, by simp⟩
    · refine .inr ⟨g, 0, _, rfl, h0, Nat.le_refl _, hm, (Array.getElem?_eq_some_iff.1 h3).1, fun j hj => ?_⟩
      rw [Nat.zero_add, block_cell h3 j]
      simp [hj]

def U32s (es : List Int) : Prop := ∀ e ∈ es, 0 ≤ e ∧ e ≤ 4294967295
theorem U32s.at {es : List Int} (h : U32s es) (m : Nat) : 0 ≤ es[m]?.getD 0 ∧ es[m]?.getD 0 ≤ 4294967295 := by
  by_cases hm : m < es.length
  · exact h _ (by simp [hm])
  · simp [hm]

/-- The first m edges put into bytes. -/
def pk (es dt : List Int) : Nat → List Int
  | 0 => dt
  | m + 1 => putAt4 (pk es dt m) ((m : Int) * 4) (es[m]?.getD 0)
theorem pk_length (es dt : List Int) : ∀ m, (pk es dt m).length = dt.length
  | 0 => rfl
  | m + 1 => by rw [pk, putAt4_length, pk_length es dt m]
theorem By_pk {es dt : List Int} (hE : U32s es) (hB : Mt.By dt) : ∀ m, Mt.By (pk es dt m)
  | 0 => hB
  | m + 1 => By_putAt4 (By_pk hE hB m) _ (hE.at m)
def wsd (es : List Int) (o : Opt) : Opt := (o.1, pk es o.2 (min es.length (o.2.length / 4)))
def wsk (os : List Opt) (es : List Int) : List Opt := match skx os with | none => os | some k => os.set k (wsd es (os[k]?.getD (0, [])))

theorem Ow.later' {base : Nat} {A B : World} {v : Value} {zs : List Int} (h : Ow base A v zs) (l : Later A B) : Ow base B v zs := h.ck (CK.of l)
/-- What is one's own stays where a block of segments turns. -/
theorem Ow.setS {base : Nat} {W V : World} {v : Value} {zs : List Int} {g : Nat} {cur : Array Value} (h : Ow base W v zs) (hg : W.heap[g]? = some (.cells cur 29 (0, 0))) (hb : But (fun b => b = g) W V) : Ow base V v zs := by
  rcases h with h | ⟨g', cap, c2, h1, h2, h3, h4, h5, h6, h7⟩
  · exact .inl h
  · refine .inr ⟨g', cap, c2, h1, h2, h3, h4, h5, ?_, h7⟩
    have hne : g' ≠ g := fun e => by subst e; rw [h6] at hg; simp at hg
    exact (hb.block g' (Array.getElem?_eq_some_iff.1 h6).1 hne).trans h6
theorem OwO.setS {base : Nat} {W V : World} {v : Value} {os : List Opt} {g : Nat} {cur : Array Value} (h : OwO base W v os) (hg : W.heap[g]? = some (.cells cur 29 (0, 0))) (hb : But (fun b => b = g) W V) : OwO base V v os := by
  obtain ⟨ss, h1, ⟨h2, h2'⟩, h3⟩ := h
  refine ⟨ss, h1, ⟨h2, h2'.imp id ?_⟩, fun j hj => (h3 j hj).setS hg hb⟩
  rintro ⟨g', cap, c2, e1, e2, e3, r⟩
  have hne : g' ≠ g := fun e => by subst e; rw [e3] at hg; simp at hg
  exact ⟨g', cap, c2, e1, e2, (hb.block g' (Array.getElem?_eq_some_iff.1 e3).1 hne).trans e3, r⟩


set_option maxHeartbeats 8000000 in
theorem wsacks_any (sp dp sq ak fl wn ur : Int) (sO sm sE : Value) (os : List Opt) (zm es : List Int) (w : World) (hB : ByO os) (hI : RdO w.heap.size w sO os) (hM : Rd w.heap.size w sm zm) (hE : RdU w.heap.size w sE es) (hU : U32s es) (hl : os.length ≤ 1000) (hz : ∀ o ∈ os, o.2.length ≤ 140737488355328) (hzm : zm.length ≤ 140737488355328) :
    Calls Try.prog 18 #[.agg #[.int .u16 sp, .int .u16 dp, .int .u32 sq, .int .u32 ak, .int .u8 fl, .int .u16 wn, .int .u16 ur, sO, sm], sE] w fun e w' => Below w.heap.size w w' ∧ ∃ vO vm, e = .returned (.agg #[.int .u16 sp, .int .u16 dp, .int .u32 sq, .int .u32 ak, .int .u8 fl, .int .u16 wn, .int .u16 ur, vO, vm]) ∧ OwO w.heap.size w' vO (wsk os es) ∧ Ow w.heap.size w' vm zm := by
  obtain ⟨aO, cO, rfl, _, hcm⟩ := hI.slice
  obtain ⟨am, cm, rfl, _, _⟩ := hM.slice
  obtain ⟨ae, ce, rfl, he1, he2⟩ := hE.slice
  have hb0 : Below w.heap.size w ((w.alloc (.cells #[.int .u16 sp, .int .u16 dp, .int .u32 sq, .int .u32 ak, .int .u8 fl, .int .u16 wn, .int .u16 ur, .slice aO os.length cO, .slice am zm.length cm] 29)).alloc (.cells #[.int .u16 0, .int .u16 0, .int .u32 0, .int .u32 0, .int .u8 0, .int .u16 0, .int .u16 0, .slice none 0 0, .slice none 0 0] 29)) := ((Below.refl _ _).alloc (Nat.le_refl _) _).alloc (by simp) _
  have p0 : ((w.alloc (.cells #[.int .u16 sp, .int .u16 dp, .int .u32 sq, .int .u32 ak, .int .u8 fl, .int .u16 wn, .int .u16 ur, .slice aO os.length cO, .slice am zm.length cm] 29)).alloc (.cells #[.int .u16 0, .int .u16 0, .int .u32 0, .int .u32 0, .int .u8 0, .int .u16 0, .int .u16 0, .slice none 0 0, .slice none 0 0] 29)).heap[w.heap.size]? = some (.cells #[.int .u16 sp, .int .u16 dp, .int .u32 sq, .int .u32 ak, .int .u8 fl, .int .u16 wn, .int .u16 ur, .slice aO os.length cO, .slice am zm.length cm] 29) := (Below.heap_alloc _ _ _ (by simp)).trans (heap_alloc_new w _)
  have r0 := heap_alloc_new (w.alloc (.cells #[.int .u16 sp, .int .u16 dp, .int .u32 sq, .int .u32 ak, .int .u8 fl, .int .u16 wn, .int .u16 ur, .slice aO os.length cO, .slice am zm.length cm] 29)) (.cells #[.int .u16 0, .int .u16 0, .int .u32 0, .int .u32 0, .int .u8 0, .int .u16 0, .int .u16 0, .slice none 0 0, .slice none 0 0] 29)
  rw [World.size_alloc] at r0
  have hs0 : w.heap.size + 1 < ((w.alloc (.cells #[.int .u16 sp, .int .u16 dp, .int .u32 sq, .int .u32 ak, .int .u8 fl, .int .u16 wn, .int .u16 ur, .slice aO os.length cO, .slice am zm.length cm] 29)).alloc (.cells #[.int .u16 0, .int .u16 0, .int .u32 0, .int .u32 0, .int .u8 0, .int .u16 0, .int .u16 0, .slice none 0 0, .slice none 0 0] 29)).heap.size := by simp
  have P0 := hide p0
  have R0 := hide r0
  clear p0 r0
  go_enter Try.func18, Try.ntmps18
  go_upto_region 1 with fail
  generalize (w.alloc (.cells #[.int .u16 sp, .int .u16 dp, .int .u32 sq, .int .u32 ak, .int .u8 fl, .int .u16 wn, .int .u16 ur, .slice aO os.length cO, .slice am zm.length cm] 29)).alloc (.cells #[.int .u16 0, .int .u16 0, .int .u32 0, .int .u32 0, .int .u8 0, .int .u16 0, .int .u16 0, .slice none 0 0, .slice none 0 0] 29) = w0 at *
  go_cut [10] (fun _ wx => ∃ vO vm, wx.heap[w.heap.size]? = some (.cells #[.int .u16 sp, .int .u16 dp, .int .u32 sq, .int .u32 ak, .int .u8 fl, .int .u16 wn, .int .u16 ur, vO, vm] 29 (0, 0)) ∧ OwO w0.heap.size wx vO os ∧ Ow w0.heap.size wx vm zm ∧ But (fun b => b = w.heap.size) w0 wx)
  case first =>
    refine anyT_begin (R := But (fun b => b = w.heap.size)) 10 rfl (by kernel_rfl) ?_
    have ld : Later w0 w0.drew := Later.drew w0
    have pd := later_keep ld P0.out
    generalize w0.drew = Wd at *
    refine anyT_val (But.pre _) 0 rfl (by kernel_rfl) (by kernel_rfl) (by kernel_rfl) (fun _ _ _ _ h => h) rfl ?_; apply Exists.intro; refine ⟨fun v1 hv1 => ?_, ?_⟩; (· (go_simp; rfl)); simp only [Act.put, List.setIfInBounds_toArray, List.set_cons_zero, List.set_cons_succ]
    refine anyT_val (But.pre _) 3 rfl (by kernel_rfl) (by kernel_rfl) (by kernel_rfl) (fun _ _ _ _ h => h) rfl ?_; apply Exists.intro; refine ⟨fun v1 hv1 => ?_, ?_⟩; (· (go_simp; rfl)); simp only [Act.put, List.setIfInBounds_toArray, List.set_cons_zero, List.set_cons_succ]
    have kd := block_cell pd
    refine anyT_two 1 4 rfl rfl (by kernel_rfl) rfl rfl ?_ ?_
    · unfold Oper.wp
      go_simp
      refine ⟨But.refl _ _, ?_⟩
      refine anyT_two 2 4 rfl rfl (by kernel_rfl) rfl rfl ?_ ?_
      · refine wp_enter 46 #[.slice aO os.length cO] (by go_simp) ?_
        refine (ownO_any _ os Wd hl hz ((hI.below (hb0.trans (ld.mono hb0.size))).mono (Nat.le_trans hb0.size ld.size))).mono ?_
        rintro e W2 ⟨vO, rfl, hO, hb2⟩
        obtain ⟨aV, cV, rfl, _, _⟩ := hO.slice
        have l2 : Later Wd W2 := hb2
        refine ⟨But.of l2, ?_⟩
        simp only [Act.put, List.setIfInBounds_toArray, List.set_cons_zero, List.set_cons_succ]
        have px := later_keep l2 pd
        clear kd
        have kd := block_cell px
        refine anyT_one 4 rfl (by kernel_rfl) rfl ?_
        unfold Oper.wp
        go_simp
        refine ⟨But.refl _ _, ?_⟩
        clear kd
        refine anyT_val (But.pre _) 6 rfl (by kernel_rfl) (by kernel_rfl) (by kernel_rfl) (fun _ _ _ _ h => h) rfl ?_; apply Exists.intro; refine ⟨fun v1 hv1 => ?_, ?_⟩; (· (go_simp; rfl)); simp only [Act.put, List.setIfInBounds_toArray, List.set_cons_zero, List.set_cons_succ]
        refine anyT_one 5 rfl (by kernel_rfl) rfl ?_
        refine wp_enter 24 #[.slice am zm.length cm] (by go_simp) ?_
        refine (cloneb_any _ zm W2 hzm ((hM.below (hb0.trans ((ld.trans l2).mono hb0.size))).mono (Nat.le_trans hb0.size (ld.trans l2).size))).mono ?_
        rintro e W5 ⟨am1, cm1, rfl, hD, hb5⟩
        have l5 : Later W2 W5 := hb5
        refine ⟨But.of l5, ?_⟩
        simp only [Act.put, List.setIfInBounds_toArray, List.set_cons_zero, List.set_cons_succ]
        replace px := later_keep l5 px
        replace hO := (hO.later l5).mono ld.size
        replace hD := hD.mono (Nat.le_trans ld.size l2.size)
        have lx := ld.trans (l2.trans l5)
        have kx := block_cell px; have fx := block_frozen px; refine anyT_one 7 rfl (by kernel_rfl) rfl ?_; unfold Oper.wp; go_simp; (generalize hV : W5.setCell ⟨w.heap.size, 7, none⟩ _ = V); have pV := heap_set1 px 7 (.slice aV os.length cV); rw [hV] at pV; (have hbV : But (fun b => b = w.heap.size) W5 V := by rw [← hV]; exact (But.refl (fun b => b = w.heap.size) _).setCell (p := ⟨w.heap.size, 7, none⟩) rfl _); refine ⟨hbV, ?_⟩; have hOV := hO.setS px hbV; have hDV := hD.setS px hbV; clear hV kx fx; simp only [List.setIfInBounds_toArray, List.set_cons_zero, List.set_cons_succ] at pV; refine anyT_val (But.pre _) 8 rfl (by kernel_rfl) (by kernel_rfl) (by kernel_rfl) (fun _ _ _ _ h => h) rfl ?_; apply Exists.intro; refine ⟨fun v1 hv1 => ?_, ?_⟩; (· (go_simp; rfl)); simp only [Act.put, List.setIfInBounds_toArray, List.set_cons_zero, List.set_cons_succ]; have kx := block_cell pV; have fx := block_frozen pV; refine anyT_one 9 rfl (by kernel_rfl) rfl ?_; unfold Oper.wp; go_simp; (generalize hU : V.setCell ⟨w.heap.size, 8, none⟩ _ = U); have pU := heap_set1 pV 8 (.slice am1 zm.length cm1); rw [hU] at pU; (have hbU : But (fun b => b = w.heap.size) V U := by rw [← hU]; exact (But.refl (fun b => b = w.heap.size) _).setCell (p := ⟨w.heap.size, 8, none⟩) rfl _); refine ⟨hbU, ?_⟩; have hOU := hOV.setS pV hbU; have hDU := hDV.setS pV hbU; clear hU kx fx; simp only [List.setIfInBounds_toArray, List.set_cons_zero, List.set_cons_succ] at pU; refine anyT_done (by kernel_rfl) ?_; have hfin : But (fun b => b = w.heap.size) w0 U := (But.of lx).trans (hbV.trans hbU); go_wp2_with fail; go_meet; exact ⟨_, _, pU, hOU, hDU, hfin⟩
      · unfold Oper.wp
        go_simp
        refine ⟨But.refl _ _, ?_⟩
        clear kd
        refine anyT_one 2 rfl (by kernel_rfl) rfl ?_
        refine wp_enter 46 #[.slice aO os.length cO] (by go_simp) ?_
        refine (ownO_any _ os Wd hl hz ((hI.below (hb0.trans (ld.mono hb0.size))).mono (Nat.le_trans hb0.size ld.size))).mono ?_
        rintro e W2 ⟨vO, rfl, hO, hb2⟩
        obtain ⟨aV, cV, rfl, _, _⟩ := hO.slice
        have l2 : Later Wd W2 := hb2
        refine ⟨But.of l2, ?_⟩
        simp only [Act.put, List.setIfInBounds_toArray, List.set_cons_zero, List.set_cons_succ]
        have px := later_keep l2 pd
        refine anyT_val (But.pre _) 6 rfl (by kernel_rfl) (by kernel_rfl) (by kernel_rfl) (fun _ _ _ _ h => h) rfl ?_; apply Exists.intro; refine ⟨fun v1 hv1 => ?_, ?_⟩; (· (go_simp; rfl)); simp only [Act.put, List.setIfInBounds_toArray, List.set_cons_zero, List.set_cons_succ]
        refine anyT_one 5 rfl (by kernel_rfl) rfl ?_
        refine wp_enter 24 #[.slice am zm.length cm] (by go_simp) ?_
        refine (cloneb_any _ zm W2 hzm ((hM.below (hb0.trans ((ld.trans l2).mono hb0.size))).mono (Nat.le_trans hb0.size (ld.trans l2).size))).mono ?_
        rintro e W5 ⟨am1, cm1, rfl, hD, hb5⟩
        have l5 : Later W2 W5 := hb5
        refine ⟨But.of l5, ?_⟩
        simp only [Act.put, List.setIfInBounds_toArray, List.set_cons_zero, List.set_cons_succ]
        replace px := later_keep l5 px
        replace hO := (hO.later l5).mono ld.size
        replace hD := hD.mono (Nat.le_trans ld.size l2.size)
        have lx := ld.trans (l2.trans l5)
        have kx := block_cell px; have fx := block_frozen px; refine anyT_one 7 rfl (by kernel_rfl) rfl ?_; unfold Oper.wp; go_simp; (generalize hV : W5.setCell ⟨w.heap.size, 7, none⟩ _ = V); have pV := heap_set1 px 7 (.slice aV os.length cV); rw [hV] at pV; (have hbV : But (fun b => b = w.heap.size) W5 V := by rw [← hV]; exact (But.refl (fun b => b = w.heap.size) _).setCell (p := ⟨w.heap.size, 7, none⟩) rfl _); refine ⟨hbV, ?_⟩; have hOV := hO.setS px hbV; have hDV := hD.setS px hbV; clear hV kx fx; simp only [List.setIfInBounds_toArray, List.set_cons_zero, List.set_cons_succ] at pV; refine anyT_val (But.pre _) 8 rfl (by kernel_rfl) (by kernel_rfl) (by kernel_rfl) (fun _ _ _ _ h => h) rfl ?_; apply Exists.intro; refine ⟨fun v1 hv1 => ?_, ?_⟩; (· (go_simp; rfl)); simp only [Act.put, List.setIfInBounds_toArray, List.set_cons_zero, List.set_cons_succ]; have kx := block_cell pV; have fx := block_frozen pV; refine anyT_one 9 rfl (by kernel_rfl) rfl ?_; unfold Oper.wp; go_simp; (generalize hU : V.setCell ⟨w.heap.size, 8, none⟩ _ = U); have pU := heap_set1 pV 8 (.slice am1 zm.length cm1); rw [hU] at pU; (have hbU : But (fun b => b = w.heap.size) V U := by rw [← hU]; exact (But.refl (fun b => b = w.heap.size) _).setCell (p := ⟨w.heap.size, 8, none⟩) rfl _); refine ⟨hbU, ?_⟩; have hOU := hOV.setS pV hbU; have hDU := hDV.setS pV hbU; clear hU kx fx; simp only [List.setIfInBounds_toArray, List.set_cons_zero, List.set_cons_succ] at pU; refine anyT_done (by kernel_rfl) ?_; have hfin : But (fun b => b = w.heap.size) w0 U := (But.of lx).trans (hbV.trans hbU); go_wp2_with fail; go_meet; exact ⟨_, _, pU, hOU, hDU, hfin⟩
    · unfold Oper.wp
      go_simp
      refine ⟨But.refl _ _, ?_⟩
      refine anyT_one 1 rfl (by kernel_rfl) rfl ?_
      unfold Oper.wp
      go_simp
      refine ⟨But.refl _ _, ?_⟩
      clear kd
      refine anyT_one 2 rfl (by kernel_rfl) rfl ?_
      refine wp_enter 46 #[.slice aO os.length cO] (by go_simp) ?_
      refine (ownO_any _ os Wd hl hz ((hI.below (hb0.trans (ld.mono hb0.size))).mono (Nat.le_trans hb0.size ld.size))).mono ?_
      rintro e W2 ⟨vO, rfl, hO, hb2⟩
      obtain ⟨aV, cV, rfl, _, _⟩ := hO.slice
      have l2 : Later Wd W2 := hb2
      refine ⟨But.of l2, ?_⟩
      simp only [Act.put, List.setIfInBounds_toArray, List.set_cons_zero, List.set_cons_succ]
      have px := later_keep l2 pd
      refine anyT_val (But.pre _) 6 rfl (by kernel_rfl) (by kernel_rfl) (by kernel_rfl) (fun _ _ _ _ h => h) rfl ?_; apply Exists.intro; refine ⟨fun v1 hv1 => ?_, ?_⟩; (· (go_simp; rfl)); simp only [Act.put, List.setIfInBounds_toArray, List.set_cons_zero, List.set_cons_succ]
      refine anyT_one 5 rfl (by kernel_rfl) rfl ?_
      refine wp_enter 24 #[.slice am zm.length cm] (by go_simp) ?_
      refine (cloneb_any _ zm W2 hzm ((hM.below (hb0.trans ((ld.trans l2).mono hb0.size))).mono (Nat.le_trans hb0.size (ld.trans l2).size))).mono ?_
      rintro e W5 ⟨am1, cm1, rfl, hD, hb5⟩
      have l5 : Later W2 W5 := hb5
      refine ⟨But.of l5, ?_⟩
      simp only [Act.put, List.setIfInBounds_toArray, List.set_cons_zero, List.set_cons_succ]
      replace px := later_keep l5 px
      replace hO := (hO.later l5).mono ld.size
      replace hD := hD.mono (Nat.le_trans ld.size l2.size)
      have lx := ld.trans (l2.trans l5)
      have kx := block_cell px; have fx := block_frozen px; refine anyT_one 7 rfl (by kernel_rfl) rfl ?_; unfold Oper.wp; go_simp; (generalize hV : W5.setCell ⟨w.heap.size, 7, none⟩ _ = V); have pV := heap_set1 px 7 (.slice aV os.length cV); rw [hV] at pV; (have hbV : But (fun b => b = w.heap.size) W5 V := by rw [← hV]; exact (But.refl (fun b => b = w.heap.size) _).setCell (p := ⟨w.heap.size, 7, none⟩) rfl _); refine ⟨hbV, ?_⟩; have hOV := hO.setS px hbV; have hDV := hD.setS px hbV; clear hV kx fx; simp only [List.setIfInBounds_toArray, List.set_cons_zero, List.set_cons_succ] at pV; refine anyT_val (But.pre _) 8 rfl (by kernel_rfl) (by kernel_rfl) (by kernel_rfl) (fun _ _ _ _ h => h) rfl ?_; apply Exists.intro; refine ⟨fun v1 hv1 => ?_, ?_⟩; (· (go_simp; rfl)); simp only [Act.put, List.setIfInBounds_toArray, List.set_cons_zero, List.set_cons_succ]; have kx := block_cell pV; have fx := block_frozen pV; refine anyT_one 9 rfl (by kernel_rfl) rfl ?_; unfold Oper.wp; go_simp; (generalize hU : V.setCell ⟨w.heap.size, 8, none⟩ _ = U); have pU := heap_set1 pV 8 (.slice am1 zm.length cm1); rw [hU] at pU; (have hbU : But (fun b => b = w.heap.size) V U := by rw [← hU]; exact (But.refl (fun b => b = w.heap.size) _).setCell (p := ⟨w.heap.size, 8, none⟩) rfl _); refine ⟨hbU, ?_⟩; have hOU := hOV.setS pV hbU; have hDU := hDV.setS pV hbU; clear hU kx fx; simp only [List.setIfInBounds_toArray, List.set_cons_zero, List.set_cons_succ] at pU; refine anyT_done (by kernel_rfl) ?_; have hfin : But (fun b => b = w.heap.size) w0 U := (But.of lx).trans (hbV.trans hbU); go_wp2_with fail; go_meet; exact ⟨_, _, pU, hOU, hDU, hfin⟩
  case rest =>
    obtain ⟨vO, vm, px, hO, hD, hbx⟩ := hcut
    obtain ⟨aV, cV, rfl, hcv, hcv2⟩ := hO.slice
    obtain ⟨am1, cm1, rfl, _, _⟩ := hD.slice
    have rx := (hbx.block (w.heap.size + 1) hs0 (by omega)).trans R0.out
    have hwx : Below w.heap.size w wc := hb0.trans (hbx.below hb0.size (fun k hk e => by omega))
    have hsz := hbx.size
    have kx := block_cell px
    go_wp2_with fail
    refine (idxo_any wc.heap.size _ os wc (Nat.le_refl _) hO.rd hz).mono ?_
    rintro e w1 ⟨hb1, ⟨hn, rfl⟩ | ⟨k, hk, rfl⟩⟩
    · have HS : Hid (wsk os es = os) := by show _ = _; unfold wsk; rw [hn]
      clear hn kx
      have l1 : Later wc w1 := hb1
      have kx := block_cell (later_keep l1 px)
      have r1 := later_keep l1 rx
      have ky := block_cell r1
      have fy := block_frozen r1
      have hw1 := hwx.trans (l1.mono hwx.size)
      go_wp2_with fail
      generalize hV : ((((((((w1.setCell ⟨w.heap.size + 1, 0, none⟩ _).setCell ⟨w.heap.size + 1, 1, none⟩ _).setCell ⟨w.heap.size + 1, 2, none⟩ _).setCell ⟨w.heap.size + 1, 3, none⟩ _).setCell ⟨w.heap.size + 1, 4, none⟩ _).setCell ⟨w.heap.size + 1, 5, none⟩ _).setCell ⟨w.heap.size + 1, 6, none⟩ _).setCell ⟨w.heap.size + 1, 7, none⟩ _).setCell ⟨w.heap.size + 1, 8, none⟩ _ = V
      have hV8 : V = putRow w1 (w.heap.size + 1) 0 [.int .u16 sp, .int .u16 dp, .int .u32 sq, .int .u32 ak, .int .u8 fl, .int .u16 wn, .int .u16 ur, .slice aV os.length cV, .slice am1 zm.length cm1] := hV.symm
      have hbV : But (fun b => b = w.heap.size + 1) w1 V := by rw [hV8]; exact putRow_but (E := fun b => b = w.heap.size + 1) (n := w.heap.size + 1) rfl _ _ _ _ (But.refl _ _)
      have pV := putRow_all ([.int .u16 sp, .int .u16 dp, .int .u32 sq, .int .u32 ak, .int .u8 fl, .int .u16 wn, .int .u16 ur, .slice aV os.length cV, .slice am1 zm.length cm1] : List Value) r1 rfl
      rw [← hV8] at pV
      clear hV hV8 ky fy kx
      have PV := block_cell pV
      have hwV : Below w.heap.size w V := hw1.trans (hbV.below hw1.size (fun k hk e => by omega))
      have OV : OwO w.heap.size V (.slice aV os.length cV) (wsk os es) := by rw [HS.out]; exact ((hO.later l1).setS r1 hbV).mono hb0.size
      have DV : Ow w.heap.size V (.slice am1 zm.length cm1) zm := ((hD.later' l1).setS r1 hbV).mono hb0.size
      exact bodyPost_ret (v := .agg #[.int .u16 sp, .int .u16 dp, .int .u32 sq, .int .u32 ak, .int .u8 fl, .int .u16 wn, .int .u16 ur, .slice aV os.length cV, .slice am1 zm.length cm1]) (by simp [results, Try.results18, go_sem, PV]) rfl ⟨hwV, _, _, rfl, OV, DV⟩
    · have l1 : Later wc w1 := hb1
      obtain ⟨hkl, htl⟩ := skx_lt hk
      have HS : Hid (wsk os es = os.set k (wsd es (os[k]?.getD (0, [])))) := by show _ = _; unfold wsk; rw [hk]
      clear hk kx
      have px1 := later_keep l1 px
      have kx := block_cell px1
      have hO1 := hO.later l1
      have hD1 := hD.later' l1
      obtain ⟨ss, hsl, hrow, hdat⟩ := hO1
      obtain ⟨g, cp, e, _, _, hg, ⟨cur, hcur⟩, hcell, hset⟩ := row_setk hrow (by omega)
      simp at e
      obtain ⟨rfl, rfl⟩ := e
      have hat := rowO_at os ss hsl k hkl
      obtain ⟨c0, f0⟩ := hcell (k * 2) (by omega)
      obtain ⟨c1, f1⟩ := hcell (k * 2 + 1) (by omega)
      rw [hat.1] at c0
      rw [hat.2] at c1
      have hOk := hdat k hkl
      have hzk := hz (os[k]?.getD (0, [])) (by simp [hkl])
      have hBk := (hB (os[k]?.getD (0, [])) (by simp [hkl])).2
      have hkl' : (k : Int) < os.length := by omega
      have HD := hide hdat
      have HR := hide hrow
      clear hset hdat hcell hat hrow
      obtain ⟨sa, sc, hse, _, _⟩ := hOk.slice
      have HSE := hide hse
      rw [hse] at c1 hOk
      clear hse
      have hts : (os[k]?.getD (0, [])).2.length % 8 = 0 ∧ 1 ≤ (os[k]?.getD (0, [])).2.length / 8 ∧ (os[k]?.getD (0, [])).2.length / 8 ≤ 4 := by
        unfold tlo telb at htl
        have := of_decide_eq_true htl
        exact this.2
      clear htl
      have hws : wsd es (os[k]?.getD (0, [])) = ((os[k]?.getD (0, [])).1, pk es (os[k]?.getD (0, [])).2 (min es.length ((os[k]?.getD (0, [])).2.length / 4))) := rfl
      rw [hws] at HS
      clear hws
      generalize hdt : (os[k]?.getD (0, [])).2 = dt at *
      have HDT := hide hdt
      clear hdt
      have h32 : dt.length ≤ 32 := by omega
      clear hts
      have HRD := hide hOk.rd
      obtain ⟨mn, hmn⟩ : ∃ mn : Nat, mn = min es.length (dt.length / 4) := ⟨_, rfl⟩
      rw [← hmn] at HS
      by_cases hcmp : (es.length : Int) ≤ (dt.length : Int) / 4
      · obtain rfl : mn = es.length := by omega
        clear hmn
        go_wp2_with fail
        clear c0 f0 f1 kx
        have hO0 : ∃ ad cd, Value.slice sa dt.length sc = .slice ad dt.length cd ∧ Ow w0.heap.size w1 (.slice ad dt.length cd) (pk es dt 0) := ⟨sa, sc, rfl, hOk⟩
        clear hOk
        go_loopw [6, 34] (fun d i wr => ∃ j : Nat, j ≤ es.length ∧ i = .int .i64 (j : Int) ∧ (∃ ad cd, d = .slice ad dt.length cd ∧ Ow w0.heap.size wr (.slice ad dt.length cd) (pk es dt j)) ∧ Later w1 wr) (fun _ i _ => es.length - (intOf i).toNat)
        case atStart => exact ⟨0, by omega, rfl, hO0, Later.refl _⟩
        case round =>
          obtain ⟨j, hj, rfl, ⟨ad, cd, rfl, hOj⟩, hlr⟩ := hrel
          clear hO0
          by_cases hlt : j < es.length
          · have hlt' : (j : Int) < (es.length : Nat) := by omega
            have hje : (j : Int) < es.length := by omega
            have hwr : Below w.heap.size w wr := hwx.trans ((l1.trans hlr).mono hwx.size)
            obtain ⟨b', off', cp', e', _, _, hbb', hcs'⟩ := (hE.below hwr).cells (by omega)
            simp at e'
            obtain ⟨rfl, rfl⟩ := e'
            have ce := hcs' j (by omega)
            clear hcs'
            have hub := hU.at j
            have HPK : Hid (pk es dt (j + 1) = putAt4 (pk es dt j) ((j : Int) * 4) (es[j]?.getD 0)) := rfl
            generalize es[j]?.getD 0 = ev at *
            have hpl := pk_length es dt j
            have HPL := hide hpl
            clear hpl
            have hRj := hOj.rd
            have HOJ := hide hOj
            clear hOj
            go_wp2_with fail
            refine (put32_any _ (pk es dt j) ((j : Int) * 4) ev wr (by rw [HPL.out]; omega) hRj hub).mono ?_
            rintro e w3 ⟨a3, rfl, hO3, hb3⟩
            have l3 : Later wr w3 := hb3
            rw [HPL.out] at hO3 ⊢
            rw [← HPK.out] at hO3
            replace hO3 := hO3.mono (Nat.le_trans (Nat.le_trans hsz l1.size) hlr.size)
            have hl3 := hlr.trans l3
            have HO3 := hide hO3
            clear hO3 HOJ hRj
            go_wp2_with fail
            go_roundw
            case rel => exact ⟨j + 1, by omega, by go_num, ⟨_, _, rfl, HO3.out⟩, hl3⟩
            case measure => simp [intOf]; omega
          · obtain rfl : j = es.length := by omega
            have l2 := l1.trans hlr
            have px2 := later_keep hlr px1
            have kx := block_cell px2
            have r2 := later_keep l2 rx
            have hcur2 := later_keep hlr hcur
            have k1 : wr.cell? ⟨g, k * 2 + 1, none⟩ = some (.slice sa dt.length sc) := hlr.cell c1
            have fz : wr.frozen? ⟨g, k * 2 + 1, none⟩ = false := block_frozen hcur2 _
            have hrow2 := ownsRow_ck HR.out (CK.of hlr)
            obtain ⟨g', cp', e', _, _, _, _, _, hset2⟩ := row_setk hrow2 (by omega)
            simp at e'
            obtain ⟨rfl, rfl⟩ := e'
            have hr3 := hset2 (k * 2 + 1) (.slice ad dt.length cd) (by omega)
            rw [← rowO_set os ss k _ hsl hkl] at hr3
            have hgs : g ≠ w.heap.size := fun e => by rw [e, px2] at hcur2; simp at hcur2
            have hgr : g ≠ w.heap.size + 1 := fun e => by rw [e, r2] at hcur2; simp at hcur2
            have hbU : But (fun b => b = g) wr (wr.setCell ⟨g, k * 2 + 1, none⟩ (.slice ad dt.length cd)) := (But.refl (fun b => b = g) _).setCell (p := ⟨g, k * 2 + 1, none⟩) rfl _
            have hOU : OwO w0.heap.size (wr.setCell ⟨g, k * 2 + 1, none⟩ (.slice ad dt.length cd)) (.slice (some ⟨g, 0, none⟩) os.length cV) (wsk os es) := by
              rw [HS.out]
              refine ⟨ss.set k (.slice ad dt.length cd), by simpa using hsl, ?_, fun i hi => ?_⟩
              · rw [rowO_kind os _ k ((os[k]?.getD (0, [])).1, pk es dt es.length) hkl rfl, List.length_set]
                exact hr3
              · rw [List.length_set] at hi
                by_cases hik : i = k
                · subst hik
                  rw [List.getElem?_set_self (by omega), List.getElem?_set_self (by omega)]
                  exact hOj.setO hcur2
                · rw [List.getElem?_set_ne (fun e => hik e.symm), List.getElem?_set_ne (fun e => hik e.symm)]
                  exact ((HD.out i hi).ck (CK.of hlr)).setO hcur2
            have hDU := (hD1.later' hlr).setO (j := k * 2 + 1) (s := .slice ad dt.length cd) hcur2
            have pU := (hbU.block _ (Array.getElem?_eq_some_iff.1 px2).1 (fun e => hgs e.symm)).trans px2
            have r1 := (hbU.block _ (Array.getElem?_eq_some_iff.1 r2).1 (fun e => hgr e.symm)).trans r2
            have hw1 : Below w.heap.size w (wr.setCell ⟨g, k * 2 + 1, none⟩ (.slice ad dt.length cd)) := (hwx.trans (l2.mono hwx.size)).setCell (p := ⟨g, k * 2 + 1, none⟩) (Nat.le_trans hb0.size hg) _
            have HOU := hide hOU
            have HDU := hide hDU
            have PU := hide pU
            have R1 := hide r1
            clear hOU hDU pU r1 hr3 hset2 hrow2 HD HR px1 px rx
            go_upto_region 12 with fail
            generalize wr.setCell ⟨g, k * 2 + 1, none⟩ (.slice ad dt.length cd) = U at *
            clear kx k1 fz c1
            have r1 := R1.out
            have kx := block_cell PU.out
            have ky := block_cell r1
            have fy := block_frozen r1
            go_wp2_with fail
            generalize hV : ((((((((U.setCell ⟨w.heap.size + 1, 0, none⟩ _).setCell ⟨w.heap.size + 1, 1, none⟩ _).setCell ⟨w.heap.size + 1, 2, none⟩ _).setCell ⟨w.heap.size + 1, 3, none⟩ _).setCell ⟨w.heap.size + 1, 4, none⟩ _).setCell ⟨w.heap.size + 1, 5, none⟩ _).setCell ⟨w.heap.size + 1, 6, none⟩ _).setCell ⟨w.heap.size + 1, 7, none⟩ _).setCell ⟨w.heap.size + 1, 8, none⟩ _ = V
            have hV8 : V = putRow U (w.heap.size + 1) 0 [.int .u16 sp, .int .u16 dp, .int .u32 sq, .int .u32 ak, .int .u8 fl, .int .u16 wn, .int .u16 ur, .slice (some ⟨g, 0, none⟩) os.length cV, .slice am1 zm.length cm1] := hV.symm
            have hbV : But (fun b => b = w.heap.size + 1) U V := by rw [hV8]; exact putRow_but (E := fun b => b = w.heap.size + 1) (n := w.heap.size + 1) rfl _ _ _ _ (But.refl _ _)
            have pV := putRow_all ([.int .u16 sp, .int .u16 dp, .int .u32 sq, .int .u32 ak, .int .u8 fl, .int .u16 wn, .int .u16 ur, .slice (some ⟨g, 0, none⟩) os.length cV, .slice am1 zm.length cm1] : List Value) r1 rfl
            rw [← hV8] at pV
            clear hV hV8 ky fy kx
            have PV := block_cell pV
            have hwV : Below w.heap.size w V := hw1.trans (hbV.below hw1.size (fun k hk e => by omega))
            have OV := (HOU.out.setS r1 hbV).mono hb0.size
            have DV := (HDU.out.setS r1 hbV).mono hb0.size
            exact bodyPost_ret (v := .agg #[.int .u16 sp, .int .u16 dp, .int .u32 sq, .int .u32 ak, .int .u8 fl, .int .u16 wn, .int .u16 ur, .slice (some ⟨g, 0, none⟩) os.length cV, .slice am1 zm.length cm1]) (by simp [results, Try.results18, go_sem, PV]) rfl ⟨hwV, _, _, rfl, OV, DV⟩
      · have hdm : (dt.length : Int) / 4 = (mn : Int) := by omega
        have hme : mn ≤ es.length := by omega
        have hmd : mn * 4 ≤ dt.length := by omega
        have HDM := hide hdm
        clear hmn hdm
        go_wp2_with fail
        rw [HDM.out]
        clear c0 f0 f1 kx
        have hO0 : ∃ ad cd, Value.slice sa dt.length sc = .slice ad dt.length cd ∧ Ow w0.heap.size w1 (.slice ad dt.length cd) (pk es dt 0) := ⟨sa, sc, rfl, hOk⟩
        clear hOk
        go_loopw [6, 34] (fun d i wr => ∃ j : Nat, j ≤ mn ∧ i = .int .i64 (j : Int) ∧ (∃ ad cd, d = .slice ad dt.length cd ∧ Ow w0.heap.size wr (.slice ad dt.length cd) (pk es dt j)) ∧ Later w1 wr) (fun _ i _ => mn - (intOf i).toNat)
        case atStart => exact ⟨0, by omega, rfl, hO0, Later.refl _⟩
        case round =>
          obtain ⟨j, hj, rfl, ⟨ad, cd, rfl, hOj⟩, hlr⟩ := hrel
          clear hO0
          by_cases hlt : j < mn
          · have hlt' : (j : Int) < (mn : Nat) := by omega
            have hje : (j : Int) < es.length := by omega
            have hwr : Below w.heap.size w wr := hwx.trans ((l1.trans hlr).mono hwx.size)
            obtain ⟨b', off', cp', e', _, _, hbb', hcs'⟩ := (hE.below hwr).cells (by omega)
            simp at e'
            obtain ⟨rfl, rfl⟩ := e'
            have ce := hcs' j (by omega)
            clear hcs'
            have hub := hU.at j
            have HPK : Hid (pk es dt (j + 1) = putAt4 (pk es dt j) ((j : Int) * 4) (es[j]?.getD 0)) := rfl
            generalize es[j]?.getD 0 = ev at *
            have hpl := pk_length es dt j
            have HPL := hide hpl
            clear hpl
            have hRj := hOj.rd
            have HOJ := hide hOj
            clear hOj
            go_wp2_with fail
            refine (put32_any _ (pk es dt j) ((j : Int) * 4) ev wr (by rw [HPL.out]; omega) hRj hub).mono ?_
            rintro e w3 ⟨a3, rfl, hO3, hb3⟩
            have l3 : Later wr w3 := hb3
            rw [HPL.out] at hO3 ⊢
            rw [← HPK.out] at hO3
            replace hO3 := hO3.mono (Nat.le_trans (Nat.le_trans hsz l1.size) hlr.size)
            have hl3 := hlr.trans l3
            have HO3 := hide hO3
            clear hO3 HOJ hRj
            go_wp2_with fail
            go_roundw
            case rel => exact ⟨j + 1, by omega, by go_num, ⟨_, _, rfl, HO3.out⟩, hl3⟩
            case measure => simp [intOf]; omega
          · obtain rfl : j = mn := by omega
            have l2 := l1.trans hlr
            have px2 := later_keep hlr px1
            have kx := block_cell px2
            have r2 := later_keep l2 rx
            have hcur2 := later_keep hlr hcur
            have k1 : wr.cell? ⟨g, k * 2 + 1, none⟩ = some (.slice sa dt.length sc) := hlr.cell c1
            have fz : wr.frozen? ⟨g, k * 2 + 1, none⟩ = false := block_frozen hcur2 _
            have hrow2 := ownsRow_ck HR.out (CK.of hlr)
            obtain ⟨g', cp', e', _, _, _, _, _, hset2⟩ := row_setk hrow2 (by omega)
            simp at e'
            obtain ⟨rfl, rfl⟩ := e'
            have hr3 := hset2 (k * 2 + 1) (.slice ad dt.length cd) (by omega)
            rw [← rowO_set os ss k _ hsl hkl] at hr3
            have hgs : g ≠ w.heap.size := fun e => by rw [e, px2] at hcur2; simp at hcur2
            have hgr : g ≠ w.heap.size + 1 := fun e => by rw [e, r2] at hcur2; simp at hcur2
            have hbU : But (fun b => b = g) wr (wr.setCell ⟨g, k * 2 + 1, none⟩ (.slice ad dt.length cd)) := (But.refl (fun b => b = g) _).setCell (p := ⟨g, k * 2 + 1, none⟩) rfl _
            have hOU : OwO w0.heap.size (wr.setCell ⟨g, k * 2 + 1, none⟩ (.slice ad dt.length cd)) (.slice (some ⟨g, 0, none⟩) os.length cV) (wsk os es) := by
              rw [HS.out]
              refine ⟨ss.set k (.slice ad dt.length cd), by simpa using hsl, ?_, fun i hi => ?_⟩
              · rw [rowO_kind os _ k ((os[k]?.getD (0, [])).1, pk es dt j) hkl rfl, List.length_set]
                exact hr3
              · rw [List.length_set] at hi
                by_cases hik : i = k
                · subst hik
                  rw [List.getElem?_set_self (by omega), List.getElem?_set_self (by omega)]
                  exact hOj.setO hcur2
                · rw [List.getElem?_set_ne (fun e => hik e.symm), List.getElem?_set_ne (fun e => hik e.symm)]
                  exact ((HD.out i hi).ck (CK.of hlr)).setO hcur2
            have hDU := (hD1.later' hlr).setO (j := k * 2 + 1) (s := .slice ad dt.length cd) hcur2
            have pU := (hbU.block _ (Array.getElem?_eq_some_iff.1 px2).1 (fun e => hgs e.symm)).trans px2
            have r1 := (hbU.block _ (Array.getElem?_eq_some_iff.1 r2).1 (fun e => hgr e.symm)).trans r2
            have hw1 : Below w.heap.size w (wr.setCell ⟨g, k * 2 + 1, none⟩ (.slice ad dt.length cd)) := (hwx.trans (l2.mono hwx.size)).setCell (p := ⟨g, k * 2 + 1, none⟩) (Nat.le_trans hb0.size hg) _
            have HOU := hide hOU
            have HDU := hide hDU
            have PU := hide pU
            have R1 := hide r1
            clear hOU hDU pU r1 hr3 hset2 hrow2 HD HR px1 px rx
            go_upto_region 12 with fail
            generalize wr.setCell ⟨g, k * 2 + 1, none⟩ (.slice ad dt.length cd) = U at *
            clear kx k1 fz c1
            have r1 := R1.out
            have kx := block_cell PU.out
            have ky := block_cell r1
            have fy := block_frozen r1
            go_wp2_with fail
            generalize hV : ((((((((U.setCell ⟨w.heap.size + 1, 0, none⟩ _).setCell ⟨w.heap.size + 1, 1, none⟩ _).setCell ⟨w.heap.size + 1, 2, none⟩ _).setCell ⟨w.heap.size + 1, 3, none⟩ _).setCell ⟨w.heap.size + 1, 4, none⟩ _).setCell ⟨w.heap.size + 1, 5, none⟩ _).setCell ⟨w.heap.size + 1, 6, none⟩ _).setCell ⟨w.heap.size + 1, 7, none⟩ _).setCell ⟨w.heap.size + 1, 8, none⟩ _ = V
            have hV8 : V = putRow U (w.heap.size + 1) 0 [.int .u16 sp, .int .u16 dp, .int .u32 sq, .int .u32 ak, .int .u8 fl, .int .u16 wn, .int .u16 ur, .slice (some ⟨g, 0, none⟩) os.length cV, .slice am1 zm.length cm1] := hV.symm
            have hbV : But (fun b => b = w.heap.size + 1) U V := by rw [hV8]; exact putRow_but (E := fun b => b = w.heap.size + 1) (n := w.heap.size + 1) rfl _ _ _ _ (But.refl _ _)
            have pV := putRow_all ([.int .u16 sp, .int .u16 dp, .int .u32 sq, .int .u32 ak, .int .u8 fl, .int .u16 wn, .int .u16 ur, .slice (some ⟨g, 0, none⟩) os.length cV, .slice am1 zm.length cm1] : List Value) r1 rfl
            rw [← hV8] at pV
            clear hV hV8 ky fy kx
            have PV := block_cell pV
            have hwV : Below w.heap.size w V := hw1.trans (hbV.below hw1.size (fun k hk e => by omega))
            have OV := (HOU.out.setS r1 hbV).mono hb0.size
            have DV := (HDU.out.setS r1 hbV).mono hb0.size
            exact bodyPost_ret (v := .agg #[.int .u16 sp, .int .u16 dp, .int .u32 sq, .int .u32 ak, .int .u8 fl, .int .u16 wn, .int .u16 ur, .slice (some ⟨g, 0, none⟩) os.length cV, .slice am1 zm.length cm1]) (by simp [results, Try.results18, go_sem, PV]) rfl ⟨hwV, _, _, rfl, OV, DV⟩
end Go.Proofs.Ytclkfmdlgffbeaa

/- The document's Sacks. -/
namespace Go.Proofs.Ytclkfmdlgffbeaa
open Go.RowKit Go.Shelf
set_option maxRecDepth 100000
set_option linter.unusedVariables false
set_option linter.unusedSimpArgs false

/-- A row of numbers of 32 bits of one's own. -/
def OwU (base : Nat) (W : World) (v : Value) (ns : List Int) : Prop := W.ownsRow base 23 1 v ns.length (ns.map (Value.int .u32))
theorem ownsRow_mono {base base' : Nat} {e : TypeId} {size : Nat} {W : World} {v : Value} {n : Nat} {xs : List Value} (h : W.ownsRow base e size v n xs) (hb : base' ≤ base) : W.ownsRow base' e size v n xs := by
  refine ⟨h.1, h.2.imp id ?_⟩
  rintro ⟨g, cap, cur, h1, h2, r⟩
  exact ⟨g, cap, cur, h1, by omega, r⟩
theorem OwU.rd {base : Nat} {A : World} {v : Value} {ns : List Int} (h : OwU base A v ns) : RdU A.heap.size A v ns := by
  obtain ⟨h1, ⟨rfl, h0⟩ | ⟨g, cap, cur, rfl, hg, hh, hl, hm, hs, hc⟩⟩ := h
  · exact .inl ⟨none, 0, by simp, by simpa using h0, by omega⟩
  · by_cases h0 : ns = []
    · subst h0
      exact .inl ⟨_, cap, rfl, rfl, by simpa [maxLen] using hm⟩
    · refine .inr ⟨g, 0, cap, rfl, h0, hl, by simpa [maxLen] using hm, (Array.getElem?_eq_some_iff.1 hh).1, fun j hj => ?_⟩
      rw [Nat.zero_add, block_cell hh j]
      have h2 : (cur.toList.take (ns.length * 1))[j]? = some (.int .u32 (ns[j]?.getD 0)) := by rw [hc]; simp [hj]
      rw [List.getElem?_take, if_pos (by omega)] at h2
      simpa using h2
theorem quads_take (dt : List Int) (m : Nat) (h : m < dt.length / 4) : (quads dt).take (m + 1) = (quads dt).take m ++ [wat4 dt (m * 4)] := by
  rw [List.take_add_one, quads_at dt m h]; rfl

set_option maxHeartbeats 4000000 in
theorem rsacks_any (sp dp sq ak fl wn ur : Int) (sO sm : Value) (os : List Opt) (w : World) (hB : ByO os) (hI : RdO w.heap.size w sO os) :
    Calls Try.prog 17 #[.agg #[.int .u16 sp, .int .u16 dp, .int .u32 sq, .int .u32 ak, .int .u8 fl, .int .u16 wn, .int .u16 ur, sO, sm]] w fun e w' => Below w.heap.size w w' ∧ ∃ v, e = .returned v ∧ OwU w.heap.size w' v (sacks os) := by
  obtain ⟨a, cap, rfl, hc1, hc2⟩ := hI.slice
  obtain ⟨i0, hi, hz0, hz1, hz2⟩ := info_parts info_u32
  have hb0 : Below w.heap.size w (w.alloc (.cells #[.int .u16 sp, .int .u16 dp, .int .u32 sq, .int .u32 ak, .int .u8 fl, .int .u16 wn, .int .u16 ur, .slice a os.length cap, sm] 29)) := (Below.refl _ _).alloc (Nat.le_refl _) _
  have s0 := heap_alloc_new w (.cells #[.int .u16 sp, .int .u16 dp, .int .u32 sq, .int .u32 ak, .int .u8 fl, .int .u16 wn, .int .u16 ur, .slice a os.length cap, sm] 29)
  have S0 := hide s0
  clear s0
  go_enter Try.func17, Try.ntmps17
  go_wp2_with fail
  generalize w.alloc (.cells #[.int .u16 sp, .int .u16 dp, .int .u32 sq, .int .u32 ak, .int .u8 fl, .int .u16 wn, .int .u16 ur, .slice a os.length cap, sm] 29) = W0 at *
  refine (rsack_any sp dp sq ak fl wn ur _ sm os W0 ((hI.below hb0).mono hb0.size)).mono ?_
  rintro e w1 ⟨hb1, ⟨hn, rfl⟩ | ⟨k, hk, rfl⟩⟩
  · have hw1 := hb0.trans (hb1.mono hb0.size)
    have HS : Hid (sacks os = []) := by show _ = _; unfold sacks; rw [hn]
    clear hn
    go_wp2_with fail
    go_ret
    exact ⟨hw1, _, rfl, by rw [HS.out]; exact World.ownsRow_nil _ _ _ _⟩
  · have l1 : Later W0 w1 := hb1
    have hw1 := hb0.trans (hb1.mono hb0.size)
    have s1 := later_keep hb1 S0.out
    obtain ⟨hkl, htl⟩ := skx_lt hk
    have HS : Hid (sacks os = quads (os[k]?.getD (0, [])).2) := by show _ = _; unfold sacks; rw [hk]
    obtain ⟨b, off, cp, e, _, _, hbb, hcs⟩ := (hI.below hw1).cells (by omega)
    simp at e
    obtain ⟨rfl, rfl⟩ := e
    obtain ⟨s, c0, c1, hRs⟩ := hcs k hkl
    obtain ⟨sa, sc, rfl, _, _⟩ := hRs.slice
    have hoB := (hB (os[k]?.getD (0, [])) (by simp [hkl])).2
    have hts : (os[k]?.getD (0, [])).2.length % 8 = 0 ∧ 1 ≤ (os[k]?.getD (0, [])).2.length / 8 ∧ (os[k]?.getD (0, [])).2.length / 8 ≤ 4 := by
      unfold tlo telb at htl
      have := of_decide_eq_true htl
      exact this.2
    clear hcs htl hk hb1
    generalize (os[k]?.getD (0, [])).2 = dt at *
    have hkl' : (k : Int) < os.length := by omega
    have h4 : dt.length ≤ 32 := by omega
    have h40 : dt.length % 4 = 0 := by omega
    clear hts
    have hge : (0 : Int) ≤ k := by omega
    have kx := block_cell s1
    go_wp2_with fail
    clear kx
    go_loopw [3, 5] (fun v i wr => ∃ m : Nat, m ≤ dt.length / 4 ∧ i = .int .i64 ((m * 4 : Nat) : Int) ∧ wr.ownsRow W0.heap.size 23 1 v m (((quads dt).take m).map (Value.int .u32)) ∧ Below W0.heap.size W0 wr) (fun _ i _ => dt.length - (intOf i).toNat)
    case atStart => exact ⟨0, by omega, rfl, World.ownsRow_nil _ _ _ _, l1⟩
    case round =>
      obtain ⟨m, hm, rfl, hown, hlr⟩ := hrel
      have hbr := hb0.trans (hlr.mono hb0.size)
      have kr := block_cell (later_keep hlr S0.out)
      have hRr := hRs.below' hw1 hbr
      have d0 := (hbr.cell (p := ⟨b, off + k * 2 + 1, none⟩) hbb).trans ((hw1.cell (p := ⟨b, off + k * 2 + 1, none⟩) hbb).symm.trans c1)
      by_cases hlt : m < dt.length / 4
      · have hlt' : ((m * 4 : Nat) : Int) < (dt.length : Int) := by omega
        have HOWN := hide hown
        have C1 := hide c1
        clear hown c0 c1
        go_wp2_with fail
        refine (rget32_at _ dt hoB ((m * 4 : Nat) : Int) (by omega) (by omega) wr hRr).mono ?_
        rintro e w' ⟨rfl, q, hq⟩
        have lq : Later wr w' := by rw [hq]; exact below_draw (Later.refl wr) q
        clear hq
        rw [getAt4_lit dt ((m * 4 : Nat) : Int) (m * 4) (by omega) (by omega)]
        have HT := hide (quads_take dt m hlt)
        generalize wat4 dt (m * 4) = x at *
        have hownq := (ownsRow_ck HOWN.out (CK.of lq)).alloc (.cells #[Value.int .u32 x] 23)
        have hw' : Below W0.heap.size W0 w' := hlr.trans (lq.mono hlr.size)
        have HNW := hide (new_cells w' [Value.int .u32 x] 23)
        have HQ := hide hownq
        clear hownq kr d0
        have hszq := hw'.size
        go_wp2_with (at_builtin; refine wpList_append_own _ rfl _ _ 43 rfl W0.heap.size 23 i0 (.int .u32 0) 1 4 Try.underlying43 hi hz0 hz1 hz2 rfl (by decide) _ m (((quads dt).take m).map (Value.int .u32)) rfl HQ.out ⟨w'.heap.size, 0, none⟩ 1 1 [.int .u32 x] rfl rfl HNW.out (by intro u hu; simp at hu; subst hu; rfl) (by unfold maxLen; omega) (by omega) (by simp; omega) ?_)
        intro v' w2 hown' hgrow _
        have hB1 : Below W0.heap.size W0 w2 := (hw'.alloc hw'.size _).grown hgrow (by simp; omega) (fun j e => ((HQ.out.lt j e).1))
        have hown2 : w2.ownsRow W0.heap.size 23 1 v' (m + 1) (((quads dt).take (m + 1)).map (Value.int .u32)) := by rw [HT.out, List.map_append, List.map_take]; exact hown'
        have HO2 := hide hown2
        clear hown' hgrow HQ hown2
        go_wp2_with fail
        go_roundw
        case rel => exact ⟨m + 1, by omega, by go_num, HO2.out, hB1⟩
        case measure => simp [intOf]; omega
      · obtain rfl : m = dt.length / 4 := by omega
        have hge' : ¬ ((dt.length / 4 * 4 : Nat) : Int) < (dt.length : Int) := by omega
        have hfin : OwU w.heap.size wr u3 (sacks os) := by
          unfold OwU
          rw [HS.out, quads_length]
          rw [← quads_length dt, List.take_length, quads_length] at hown
          exact ownsRow_mono hown hb0.size
        have HF := hide hfin
        clear hown c0 c1 hfin
        go_wp2_with fail
        go_ret
        exact ⟨hbr, _, rfl, HF.out⟩
end Go.Proofs.Ytclkfmdlgffbeaa

/- The document's WithSacks. -/
namespace Go.Proofs.Ytclkfmdlgffbeaa
open Go.RowKit Go.Shelf
set_option maxRecDepth 100000
set_option linter.unusedVariables false
set_option linter.unusedSimpArgs false

theorem But.after {E : Nat → Prop} {a b c : World} (h : But E a b) (k : Below a.heap.size b c) : But E a c := ⟨k.os.trans h.os, k.tape.trans h.tape, k.output.trans h.output, Nat.le_trans h.size k.size, fun i hi he => (k.block i hi).trans (h.block i hi he)⟩
def wso (os : List Opt) (es : List Int) (i : Nat) : Opt := if skx os = some i then wsd es (os[i]?.getD (0, [])) else os[i]?.getD (0, [])
theorem wsk_length (os : List Opt) (es : List Int) : (wsk os es).length = os.length := by unfold wsk; cases skx os <;> simp
theorem wsk_at (os : List Opt) (es : List Int) (i : Nat) (h : i < os.length) : (wsk os es)[i]? = some (wso os es i) := by
  unfold wsk wso
  cases hk : skx os with
  | none => simp [h]
  | some k =>
    by_cases hik : k = i
    · subst hik; simp [h]
    · rw [List.getElem?_set_ne hik, if_neg (by simpa using hik)]; simp [h]
theorem wsk_take (os : List Opt) (es : List Int) (i : Nat) (h : i < os.length) : (wsk os es).take (i + 1) = (wsk os es).take i ++ [wso os es i] := by
  rw [List.take_add_one, wsk_at os es i h]; rfl
theorem wso_kind (os : List Opt) (es : List Int) (i : Nat) : (wso os es i).1 = (os[i]?.getD (0, [])).1 := by unfold wso wsd; split <;> rfl

set_option maxHeartbeats 8000000 in
theorem rwsacks_any (sp dp sq ak fl wn ur : Int) (sO sm sE : Value) (os : List Opt) (zm es : List Int) (w : World) (hB : ByO os) (hI : RdO w.heap.size w sO os) (hM : Rd w.heap.size w sm zm) (hE : RdU w.heap.size w sE es) (hU : U32s es) (hl : os.length ≤ 1000) (hz : ∀ o ∈ os, o.2.length ≤ 140737488355328) (hzm : zm.length ≤ 140737488355328) :
    Calls Try.prog 19 #[.agg #[.int .u16 sp, .int .u16 dp, .int .u32 sq, .int .u32 ak, .int .u8 fl, .int .u16 wn, .int .u16 ur, sO, sm], sE] w fun e w' => Below w.heap.size w w' ∧ ∃ vO vm, e = .returned (.agg #[.int .u16 sp, .int .u16 dp, .int .u32 sq, .int .u32 ak, .int .u8 fl, .int .u16 wn, .int .u16 ur, vO, vm]) ∧ OwO w.heap.size w' vO (wsk os es) ∧ Ow w.heap.size w' vm zm := by
  obtain ⟨i0, hi, hz0, hz1, hz2⟩ := info_parts info_opt
  obtain ⟨j0, hj, hy0, hy1, hy2⟩ := info_parts info_u8
  obtain ⟨aO, cO, rfl, _, hcm⟩ := hI.slice
  obtain ⟨am, cm, rfl, _, _⟩ := hM.slice
  obtain ⟨ae, ce, rfl, he1, he2⟩ := hE.slice
  have hb0 : Below w.heap.size w (((w.alloc (.cells #[.int .u16 sp, .int .u16 dp, .int .u32 sq, .int .u32 ak, .int .u8 fl, .int .u16 wn, .int .u16 ur, .slice aO os.length cO, .slice am zm.length cm] 29)).alloc (.cells #[.int .u16 0, .int .u16 0, .int .u32 0, .int .u32 0, .int .u8 0, .int .u16 0, .int .u16 0, .slice none 0 0, .slice none 0 0] 29)).alloc (.cells #[.int .u16 sp, .int .u16 dp, .int .u32 sq, .int .u32 ak, .int .u8 fl, .int .u16 wn, .int .u16 ur, .slice none 0 0, .slice am zm.length cm] 29)) := ((((Below.refl _ _).alloc (Nat.le_refl _) _).alloc (by simp) _).alloc (by simp <;> omega) _)
  have p0 : (((w.alloc (.cells #[.int .u16 sp, .int .u16 dp, .int .u32 sq, .int .u32 ak, .int .u8 fl, .int .u16 wn, .int .u16 ur, .slice aO os.length cO, .slice am zm.length cm] 29)).alloc (.cells #[.int .u16 0, .int .u16 0, .int .u32 0, .int .u32 0, .int .u8 0, .int .u16 0, .int .u16 0, .slice none 0 0, .slice none 0 0] 29)).alloc (.cells #[.int .u16 sp, .int .u16 dp, .int .u32 sq, .int .u32 ak, .int .u8 fl, .int .u16 wn, .int .u16 ur, .slice none 0 0, .slice am zm.length cm] 29)).heap[w.heap.size]? = some (.cells #[.int .u16 sp, .int .u16 dp, .int .u32 sq, .int .u32 ak, .int .u8 fl, .int .u16 wn, .int .u16 ur, .slice aO os.length cO, .slice am zm.length cm] 29) := (Below.heap_alloc _ _ _ (by simp <;> omega)).trans ((Below.heap_alloc _ _ _ (by simp)).trans (heap_alloc_new w _))
  have r0 : (((w.alloc (.cells #[.int .u16 sp, .int .u16 dp, .int .u32 sq, .int .u32 ak, .int .u8 fl, .int .u16 wn, .int .u16 ur, .slice aO os.length cO, .slice am zm.length cm] 29)).alloc (.cells #[.int .u16 0, .int .u16 0, .int .u32 0, .int .u32 0, .int .u8 0, .int .u16 0, .int .u16 0, .slice none 0 0, .slice none 0 0] 29)).alloc (.cells #[.int .u16 sp, .int .u16 dp, .int .u32 sq, .int .u32 ak, .int .u8 fl, .int .u16 wn, .int .u16 ur, .slice none 0 0, .slice am zm.length cm] 29)).heap[w.heap.size + 1]? = some (.cells #[.int .u16 0, .int .u16 0, .int .u32 0, .int .u32 0, .int .u8 0, .int .u16 0, .int .u16 0, .slice none 0 0, .slice none 0 0] 29) := by
    have := heap_alloc_new (w.alloc (.cells #[.int .u16 sp, .int .u16 dp, .int .u32 sq, .int .u32 ak, .int .u8 fl, .int .u16 wn, .int .u16 ur, .slice aO os.length cO, .slice am zm.length cm] 29)) (.cells #[.int .u16 0, .int .u16 0, .int .u32 0, .int .u32 0, .int .u8 0, .int .u16 0, .int .u16 0, .slice none 0 0, .slice none 0 0] 29)
    rw [World.size_alloc] at this
    exact (Below.heap_alloc _ _ _ (by simp)).trans this
  have t0 : (((w.alloc (.cells #[.int .u16 sp, .int .u16 dp, .int .u32 sq, .int .u32 ak, .int .u8 fl, .int .u16 wn, .int .u16 ur, .slice aO os.length cO, .slice am zm.length cm] 29)).alloc (.cells #[.int .u16 0, .int .u16 0, .int .u32 0, .int .u32 0, .int .u8 0, .int .u16 0, .int .u16 0, .slice none 0 0, .slice none 0 0] 29)).alloc (.cells #[.int .u16 sp, .int .u16 dp, .int .u32 sq, .int .u32 ak, .int .u8 fl, .int .u16 wn, .int .u16 ur, .slice none 0 0, .slice am zm.length cm] 29)).heap[w.heap.size + 1 + 1]? = some (.cells #[.int .u16 sp, .int .u16 dp, .int .u32 sq, .int .u32 ak, .int .u8 fl, .int .u16 wn, .int .u16 ur, .slice none 0 0, .slice am zm.length cm] 29) := by
    have := heap_alloc_new ((w.alloc (.cells #[.int .u16 sp, .int .u16 dp, .int .u32 sq, .int .u32 ak, .int .u8 fl, .int .u16 wn, .int .u16 ur, .slice aO os.length cO, .slice am zm.length cm] 29)).alloc (.cells #[.int .u16 0, .int .u16 0, .int .u32 0, .int .u32 0, .int .u8 0, .int .u16 0, .int .u16 0, .slice none 0 0, .slice none 0 0] 29)) (.cells #[.int .u16 sp, .int .u16 dp, .int .u32 sq, .int .u32 ak, .int .u8 fl, .int .u16 wn, .int .u16 ur, .slice none 0 0, .slice am zm.length cm] 29)
    simpa only [World.size_alloc] using this
  have hs0 : (((w.alloc (.cells #[.int .u16 sp, .int .u16 dp, .int .u32 sq, .int .u32 ak, .int .u8 fl, .int .u16 wn, .int .u16 ur, .slice aO os.length cO, .slice am zm.length cm] 29)).alloc (.cells #[.int .u16 0, .int .u16 0, .int .u32 0, .int .u32 0, .int .u8 0, .int .u16 0, .int .u16 0, .slice none 0 0, .slice none 0 0] 29)).alloc (.cells #[.int .u16 sp, .int .u16 dp, .int .u32 sq, .int .u32 ak, .int .u8 fl, .int .u16 wn, .int .u16 ur, .slice none 0 0, .slice am zm.length cm] 29)).heap.size = w.heap.size + 3 := by simp
  have P0 := hide p0
  have R0 := hide r0
  have T0 := hide t0
  have HS0 := hide hs0
  clear p0 r0 t0 hs0
  go_enter Try.func19, Try.ntmps19
  go_wp2_with fail
  generalize (((w.alloc (.cells #[.int .u16 sp, .int .u16 dp, .int .u32 sq, .int .u32 ak, .int .u8 fl, .int .u16 wn, .int .u16 ur, .slice aO os.length cO, .slice am zm.length cm] 29)).alloc (.cells #[.int .u16 0, .int .u16 0, .int .u32 0, .int .u32 0, .int .u8 0, .int .u16 0, .int .u16 0, .slice none 0 0, .slice none 0 0] 29)).alloc (.cells #[.int .u16 sp, .int .u16 dp, .int .u32 sq, .int .u32 ak, .int .u8 fl, .int .u16 wn, .int .u16 ur, .slice none 0 0, .slice am zm.length cm] 29)) = W0 at *
  go_loopw [6] (fun i wr => ∃ (k : Nat) (v : Value), k ≤ os.length ∧ i = .int .i64 (k : Int) ∧ wr.heap[w.heap.size + 1 + 1]? = some (.cells #[.int .u16 sp, .int .u16 dp, .int .u32 sq, .int .u32 ak, .int .u8 fl, .int .u16 wn, .int .u16 ur, v, .slice am zm.length cm] 29 (0, 0)) ∧ OwO W0.heap.size wr v ((wsk os es).take k) ∧ But (fun b => b = w.heap.size + 1 + 1) W0 wr) (fun i _ => os.length - (intOf i).toNat)
  case atStart => exact ⟨0, _, by omega, rfl, T0.out, OwO.nil _ _, But.refl _ _⟩
  case round =>
    obtain ⟨k, v, hk, rfl, tr, hOr, hbr⟩ := hrel
    generalize wr = wq at *
    have hs3 : w.heap.size + 1 + 1 < W0.heap.size := by have := HS0.out; omega
    have pr := (hbr.block w.heap.size (by omega) (by omega)).trans P0.out
    have kp := block_cell pr
    have hwr : Below w.heap.size w wq := hb0.trans (hbr.below hb0.size (fun k hk e => by omega))
    have hkl5 := wsk_length os es
    have htl : ((wsk os es).take k).length = k := by rw [List.length_take, hkl5]; omega
    have HTL := hide htl
    have HWK : Hid (k < os.length → (wsk os es).take (k + 1) = (wsk os es).take k ++ [wso os es k]) := wsk_take os es k
    have HWE : Hid (k = os.length → (wsk os es).take k = wsk os es) := fun h => by rw [h, ← hkl5, List.take_length]
    clear hkl5 htl
    generalize (wsk os es).take k = pre at *
    obtain ⟨av, cv, rfl, hcv1, hcv2⟩ := hOr.slice
    by_cases hlt : k < os.length
    · have hlt' : (k : Int) < os.length := by omega
      obtain ⟨b, off, cp, e, _, _, hbb, hcs⟩ := (hI.below hwr).cells (by omega)
      simp at e
      obtain ⟨rfl, rfl⟩ := e
      obtain ⟨s, c0, c1, hRs⟩ := hcs k hlt
      obtain ⟨sa, sc, rfl, _, _⟩ := hRs.slice
      have hzk := hz (os[k]?.getD (0, [])) (by simp [hlt])
      have hBk := (hB (os[k]?.getD (0, [])) (by simp [hlt])).2
      have HWD := hide (wso_kind os es k)
      have HW1 : Hid (skx os = some k → (wso os es k).2 = pk es (os[k]?.getD (0, [])).2 (min es.length ((os[k]?.getD (0, [])).2.length / 4))) := fun h => by unfold wso; rw [if_pos h]; rfl
      have HW2 : Hid (skx os ≠ some k → (wso os es k).2 = (os[k]?.getD (0, [])).2) := fun h => by unfold wso; rw [if_neg h]
      have HTS : Hid (skx os = some k → (os[k]?.getD (0, [])).2.length ≤ 32 ∧ (os[k]?.getD (0, [])).2.length % 4 = 0) := fun h => by
        have htl := (skx_lt h).2
        unfold tlo telb at htl
        have := of_decide_eq_true htl
        omega
      clear hcs
      generalize (os[k]?.getD (0, [])).2 = dt at *
      generalize (os[k]?.getD (0, [])).1 = kd at *
      have HOr := hide hOr
      have TR := hide tr
      have lo : Later wq (wq.alloc (.cells #[Value.int .u8 kd, .slice sa dt.length sc] 57)) := (Below.refl _ _).alloc (Nat.le_refl _) _
      have le : Later wq ((wq.alloc (.cells #[Value.int .u8 kd, .slice sa dt.length sc] 57)).alloc (.cells #[] 5)) := ((Below.refl _ _).alloc (Nat.le_refl _) _).alloc (by simp) _
      have ho1 := heap_alloc_new wq (.cells #[Value.int .u8 kd, .slice sa dt.length sc] 57)
      have hem := own_empty (wq.alloc (.cells #[Value.int .u8 kd, .slice sa dt.length sc] 57)) 5
      rw [World.size_alloc] at hem
      have HEM := hide hem
      clear hem
      have HRE := hide ((hRs.below (le.mono hwr.size)))
      clear hOr tr
      go_wp2_with (at_builtin; refine wpList_app _ rfl (.tmp 24) (.tmp 26) 24 rfl (wq.heap.size + 1) 5 j0 Try.underlying24 hj hy0 hy1 hy2 _ [] rfl HEM.out w.heap.size _ dt rfl HRE.out (by simp; omega) (by simp) ?_)
      intro v3 W3 hown3 hg3
      have hb3 : Below wq.heap.size wq W3 := below_app le HEM.out hg3 (by omega) (by simp <;> omega)
      have l3 : Later wq W3 := hb3
      have ob3 : W3.heap[wq.heap.size]? = some (.cells #[Value.int .u8 kd, .slice sa dt.length sc] 57) := by
        have hbq : Below (wq.heap.size + 1) (wq.alloc (.cells #[Value.int .u8 kd, .slice sa dt.length sc] 57)) W3 := below_app ((Below.refl _ _).alloc (by simp) _) HEM.out hg3 (Nat.le_refl _) (by simp)
        exact (hbq.block wq.heap.size (by omega)).trans ho1
      have hO3 := (Ow.of_row hown3).mono (show wq.heap.size ≤ wq.heap.size + 1 by omega)
      clear hown3 hg3 HEM HRE ho1 lo le
      obtain ⟨da, dc, rfl, hd1, hd2⟩ := hO3.slice
      have pr3 := later_keep l3 pr
      clear kp
      have kp := block_cell pr3
      have hw3 := hwr.trans (l3.mono hwr.size)
      have HO3 := hide (hO3.mono hbr.size)
      clear hO3
      go_wp2_with fail
      refine (rsack_any sp dp sq ak fl wn ur _ _ os W3 ((hI.below hw3).mono hw3.size)).mono ?_
      rintro e W4 ⟨hb4, ⟨hn, rfl⟩ | ⟨q, hq, rfl⟩⟩
      · have l4 : Later W3 W4 := hb4
        have l5 := l3.trans l4
        have ob5 := later_keep l4 ob3
        have hOd := HO3.out.later' l4
        have HDD : Hid ((wso os es k).2 = dt) := HW2.out (by rw [hn]; simp)
        clear hn kp
        have hne : ((k : Int) == -1) = false := by simp <;> omega
        go_upto_region 13 with fail
        clear hne
        have t5 := later_keep l5 TR.out
        have kt := block_cell t5
        have ko := block_cell ob5
        obtain ⟨ss, hsl, hrow, hdat⟩ := HOr.out.later l5
        have lA : Later W4 (W4.alloc (.cells #[Value.int .u8 kd, .slice da dt.length dc] 57)) := (Below.refl _ _).alloc (Nat.le_refl _) _
        have HRA := hide (ownsRow_ck hrow (CK.of lA))
        have HDA : Hid (∀ j, j < pre.length → Ow W0.heap.size (W4.alloc (.cells #[Value.int .u8 kd, .slice da dt.length dc] 57)) (ss[j]?.getD undef) (pre[j]?.getD (0, [])).2) := fun j h => (hdat j h).ck (CK.of lA)
        have HOA := hide (hOd.ck (CK.of lA))
        have HNW := hide (new_cells W4 [Value.int .u8 kd, .slice da dt.length dc] 57)
        have HSL := hide hsl
        have hszA : W0.heap.size ≤ W4.heap.size := Nat.le_trans hbr.size l5.size
        clear hrow hdat hOd hsl
        go_wp2_with (at_builtin; refine wpList_append_own _ rfl (.tmp 54) (.tmp 59) 27 rfl W0.heap.size 57 i0 (.agg #[.int .u8 0, .slice none 0 0]) 2 32 Try.underlying27 hi hz0 hz1 hz2 rfl (by decide) _ pre.length (rowO pre ss) rfl HRA.out ⟨W4.heap.size, 0, none⟩ 1 1 [.int .u8 kd, .slice da dt.length dc] rfl rfl HNW.out (by intro u hu; simp only [List.mem_cons, List.not_mem_nil, or_false] at hu; rcases hu with rfl | rfl <;> rfl) (by rw [HTL.out]; simp only [maxLen]; omega) (by rw [HTL.out]; omega) (by simp; omega) ?_)
        intro v6 W6 hrow6 hg6 hnn
        have hO6 : OwO W0.heap.size W6 v6 (pre ++ [(kd, dt)]) := OwO_snoc HSL.out HDA.out HRA.out HOA.out hrow6 hg6
        have hbA : Below W0.heap.size W4 (W4.alloc (.cells #[Value.int .u8 kd, .slice da dt.length dc] 57)) := lA.mono hszA
        have hb6 : Below W0.heap.size W4 W6 := below_app hbA HRA.out hg6 (Nat.le_refl _) (by simp; omega)
        have hn2 : w.heap.size + 1 + 1 < W0.heap.size := by omega
        have t6 := (hb6.block _ hn2).trans t5
        have hbr6 := hbr.after ((l5.mono hbr.size).trans hb6)
        obtain ⟨a6, c6, e6, _, _⟩ := hO6.slice
        rw [List.length_append, List.length_singleton] at e6
        subst e6
        have HO6 := hide hO6
        clear hO6 hrow6 hg6 hnn HRA HDA HOA HNW hbA
        clear kt ko
        have kt := block_cell t6
        have ft := block_frozen t6
        have t7 := heap_set1 t6 7 (.slice a6 (pre.length + 1) c6)
        have hb7 : But (fun b => b = w.heap.size + 1 + 1) W6 (W6.setCell ⟨w.heap.size + 1 + 1, 7, none⟩ (.slice a6 (pre.length + 1) c6)) := (But.refl (fun b => b = w.heap.size + 1 + 1) _).setCell (p := ⟨w.heap.size + 1 + 1, 7, none⟩) rfl _
        have T7 := hide t7
        have HO7 := hide (HO6.out.setS t6 hb7)
        have hbr7 := hbr6.trans hb7
        clear t7 HO6
        go_wp2_with fail
        go_roundw
        case rel => exact ⟨k + 1, _, by omega, by go_num, by simpa using T7.out, by rw [HWK.out hlt, show wso os es k = (kd, dt) from Prod.ext HWD.out HDD.out]; exact HO7.out, hbr7⟩
        case measure => simp [intOf]; omega
      · have l4 : Later W3 W4 := hb4
        have hw4 := hw3.trans (l4.mono hw3.size)
        by_cases hqk : q = k
        · subst hqk
          obtain ⟨h32, h44⟩ := HTS.out hq
          have HW3 := hide (HW1.out hq)
          clear hq kp
          have hee : ((q : Int) == (q : Int)) = true := by simp
          go_wp2_with fail
          clear hee
          obtain ⟨mn, hmn⟩ : ∃ mn : Nat, mn = min es.length (dt.length / 4) := ⟨_, rfl⟩
          rw [← hmn] at HW3
          have hO0 : ∃ ad cd, Value.slice da dt.length dc = .slice ad dt.length cd ∧ Ow W0.heap.size W4 (.slice ad dt.length cd) (pk es dt 0) := ⟨da, dc, rfl, HO3.out.later' l4⟩
          go_loopw [8, 9] (fun d i wx => ∃ j : Nat, j ≤ mn ∧ i = .int .i64 (j : Int) ∧ (∃ ad cd, d = .slice ad dt.length cd ∧ Ow W0.heap.size wx (.slice ad dt.length cd) (pk es dt j)) ∧ Later W4 wx) (fun _ i _ => mn - (intOf i).toNat)
          case atStart => exact ⟨0, by omega, rfl, hO0, Later.refl _⟩
          case round =>
            obtain ⟨j, hj4, rfl, ⟨ad, cd, rfl, hOj⟩, hlx⟩ := hrel
            clear hO0
            have hwx := hw4.trans (hlx.mono hw4.size)
            by_cases hlm : j < mn
            · have hje : (j : Int) < es.length := by omega
              have hjd : 4 * (j : Int) < dt.length := by omega
              obtain ⟨b', off', cp', e', _, _, hbb', hcs'⟩ := (hE.below hwx).cells (by omega)
              simp at e'
              obtain ⟨rfl, rfl⟩ := e'
              have ce := hcs' j (by omega)
              clear hcs'
              have hub := hU.at j
              have HPK : Hid (pk es dt (j + 1) = putAt4 (pk es dt j) (4 * (j : Int)) (es[j]?.getD 0)) := by show _ = _; rw [Int.mul_comm]; rfl
              generalize es[j]?.getD 0 = ev at *
              have HPL := hide (pk_length es dt j)
              have hRj := hOj.rd
              clear hOj
              have HMN := hide hmn
              clear hmn
              go_wp2_with fail
              refine (rput32_any _ (pk es dt j) (4 * (j : Int)) ev (by omega) (by rw [HPL.out]; omega) wr hRj hub).mono ?_
              rintro e w7 ⟨r7, rfl, hO7, hb7⟩
              have l7 : Later wr w7 := hb7
              rw [← HPK.out] at hO7
              obtain ⟨a7, c7, e7, _, _⟩ := hO7.slice
              rw [pk_length] at e7
              subst e7
              replace hO7 := hO7.mono (Nat.le_trans (Nat.le_trans (Nat.le_trans hbr.size l3.size) l4.size) hlx.size)
              have hl7 := hlx.trans l7
              have HO7 := hide hO7
              clear hO7 hRj
              go_wp2_with fail
              go_roundw
              case rel => exact ⟨j + 1, by omega, by go_num, ⟨_, _, rfl, HO7.out⟩, hl7⟩
              case measure => simp [intOf]; omega
            · obtain rfl : mn = j := by omega
              have hOd := hOj
              have HDD : Hid ((wso os es q).2 = pk es dt mn) := HW3
              have l5 := (l3.trans l4).trans hlx
              have ob5 := later_keep (l4.trans hlx) ob3
              have hend : ¬ (mn : Int) < es.length ∨ ((mn : Int) < es.length ∧ ¬ 4 * (mn : Int) < dt.length) := by omega
              have hm8 : (mn : Int) ≤ 8 := by omega
              have HMN := hide hmn
              clear hmn hOj
              rcases hend with hend | ⟨hend, hend2⟩
              · go_upto_region 13 with fail
                clear hend
                have t5 := later_keep l5 TR.out
                have kt := block_cell t5
                have ko := block_cell ob5
                obtain ⟨ss, hsl, hrow, hdat⟩ := HOr.out.later l5
                have lA : Later wr (wr.alloc (.cells #[Value.int .u8 kd, .slice ad dt.length cd] 57)) := (Below.refl _ _).alloc (Nat.le_refl _) _
                have HRA := hide (ownsRow_ck hrow (CK.of lA))
                have HDA : Hid (∀ j, j < pre.length → Ow W0.heap.size (wr.alloc (.cells #[Value.int .u8 kd, .slice ad dt.length cd] 57)) (ss[j]?.getD undef) (pre[j]?.getD (0, [])).2) := fun j h => (hdat j h).ck (CK.of lA)
                have HOA := hide (hOd.ck (CK.of lA))
                have HNW := hide (new_cells wr [Value.int .u8 kd, .slice ad dt.length cd] 57)
                have HSL := hide hsl
                have hszA : W0.heap.size ≤ wr.heap.size := Nat.le_trans hbr.size l5.size
                clear hrow hdat hOd hsl
                go_wp2_with (at_builtin; refine wpList_append_own _ rfl (.tmp 54) (.tmp 59) 27 rfl W0.heap.size 57 i0 (.agg #[.int .u8 0, .slice none 0 0]) 2 32 Try.underlying27 hi hz0 hz1 hz2 rfl (by decide) _ pre.length (rowO pre ss) rfl HRA.out ⟨wr.heap.size, 0, none⟩ 1 1 [.int .u8 kd, .slice ad dt.length cd] rfl rfl HNW.out (by intro u hu; simp only [List.mem_cons, List.not_mem_nil, or_false] at hu; rcases hu with rfl | rfl <;> rfl) (by rw [HTL.out]; simp only [maxLen]; omega) (by rw [HTL.out]; omega) (by simp; omega) ?_)
                intro v6 W6 hrow6 hg6 hnn
                have hO6 : OwO W0.heap.size W6 v6 (pre ++ [(kd, pk es dt mn)]) := OwO_snoc HSL.out HDA.out HRA.out HOA.out hrow6 hg6
                have hbA : Below W0.heap.size wr (wr.alloc (.cells #[Value.int .u8 kd, .slice ad dt.length cd] 57)) := lA.mono hszA
                have hb6 : Below W0.heap.size wr W6 := below_app hbA HRA.out hg6 (Nat.le_refl _) (by simp; omega)
                have hn2 : w.heap.size + 1 + 1 < W0.heap.size := by omega
                have t6 := (hb6.block _ hn2).trans t5
                have hbr6 := hbr.after ((l5.mono hbr.size).trans hb6)
                obtain ⟨a6, c6, e6, _, _⟩ := hO6.slice
                rw [List.length_append, List.length_singleton] at e6
                subst e6
                have HO6 := hide hO6
                clear hO6 hrow6 hg6 hnn HRA HDA HOA HNW hbA
                clear kt ko
                have kt := block_cell t6
                have ft := block_frozen t6
                have t7 := heap_set1 t6 7 (.slice a6 (pre.length + 1) c6)
                have hb7 : But (fun b => b = w.heap.size + 1 + 1) W6 (W6.setCell ⟨w.heap.size + 1 + 1, 7, none⟩ (.slice a6 (pre.length + 1) c6)) := (But.refl (fun b => b = w.heap.size + 1 + 1) _).setCell (p := ⟨w.heap.size + 1 + 1, 7, none⟩) rfl _
                have T7 := hide t7
                have HO7 := hide (HO6.out.setS t6 hb7)
                have hbr7 := hbr6.trans hb7
                clear t7 HO6
                go_wp2_with fail
                go_roundw
                case rel => exact ⟨q + 1, _, by omega, by go_num, by simpa using T7.out, by rw [HWK.out hlt, show wso os es q = (kd, pk es dt mn) from Prod.ext HWD.out HDD.out]; exact HO7.out, hbr7⟩
                case measure => simp [intOf]; omega
              · go_upto_region 13 with fail
                clear hend hend2
                have t5 := later_keep l5 TR.out
                have kt := block_cell t5
                have ko := block_cell ob5
                obtain ⟨ss, hsl, hrow, hdat⟩ := HOr.out.later l5
                have lA : Later wr (wr.alloc (.cells #[Value.int .u8 kd, .slice ad dt.length cd] 57)) := (Below.refl _ _).alloc (Nat.le_refl _) _
                have HRA := hide (ownsRow_ck hrow (CK.of lA))
                have HDA : Hid (∀ j, j < pre.length → Ow W0.heap.size (wr.alloc (.cells #[Value.int .u8 kd, .slice ad dt.length cd] 57)) (ss[j]?.getD undef) (pre[j]?.getD (0, [])).2) := fun j h => (hdat j h).ck (CK.of lA)
                have HOA := hide (hOd.ck (CK.of lA))
                have HNW := hide (new_cells wr [Value.int .u8 kd, .slice ad dt.length cd] 57)
                have HSL := hide hsl
                have hszA : W0.heap.size ≤ wr.heap.size := Nat.le_trans hbr.size l5.size
                clear hrow hdat hOd hsl
                go_wp2_with (at_builtin; refine wpList_append_own _ rfl (.tmp 54) (.tmp 59) 27 rfl W0.heap.size 57 i0 (.agg #[.int .u8 0, .slice none 0 0]) 2 32 Try.underlying27 hi hz0 hz1 hz2 rfl (by decide) _ pre.length (rowO pre ss) rfl HRA.out ⟨wr.heap.size, 0, none⟩ 1 1 [.int .u8 kd, .slice ad dt.length cd] rfl rfl HNW.out (by intro u hu; simp only [List.mem_cons, List.not_mem_nil, or_false] at hu; rcases hu with rfl | rfl <;> rfl) (by rw [HTL.out]; simp only [maxLen]; omega) (by rw [HTL.out]; omega) (by simp; omega) ?_)
                intro v6 W6 hrow6 hg6 hnn
                have hO6 : OwO W0.heap.size W6 v6 (pre ++ [(kd, pk es dt mn)]) := OwO_snoc HSL.out HDA.out HRA.out HOA.out hrow6 hg6
                have hbA : Below W0.heap.size wr (wr.alloc (.cells #[Value.int .u8 kd, .slice ad dt.length cd] 57)) := lA.mono hszA
                have hb6 : Below W0.heap.size wr W6 := below_app hbA HRA.out hg6 (Nat.le_refl _) (by simp; omega)
                have hn2 : w.heap.size + 1 + 1 < W0.heap.size := by omega
                have t6 := (hb6.block _ hn2).trans t5
                have hbr6 := hbr.after ((l5.mono hbr.size).trans hb6)
                obtain ⟨a6, c6, e6, _, _⟩ := hO6.slice
                rw [List.length_append, List.length_singleton] at e6
                subst e6
                have HO6 := hide hO6
                clear hO6 hrow6 hg6 hnn HRA HDA HOA HNW hbA
                clear kt ko
                have kt := block_cell t6
                have ft := block_frozen t6
                have t7 := heap_set1 t6 7 (.slice a6 (pre.length + 1) c6)
                have hb7 : But (fun b => b = w.heap.size + 1 + 1) W6 (W6.setCell ⟨w.heap.size + 1 + 1, 7, none⟩ (.slice a6 (pre.length + 1) c6)) := (But.refl (fun b => b = w.heap.size + 1 + 1) _).setCell (p := ⟨w.heap.size + 1 + 1, 7, none⟩) rfl _
                have T7 := hide t7
                have HO7 := hide (HO6.out.setS t6 hb7)
                have hbr7 := hbr6.trans hb7
                clear t7 HO6
                go_wp2_with fail
                go_roundw
                case rel => exact ⟨q + 1, _, by omega, by go_num, by simpa using T7.out, by rw [HWK.out hlt, show wso os es q = (kd, pk es dt mn) from Prod.ext HWD.out HDD.out]; exact HO7.out, hbr7⟩
                case measure => simp [intOf]; omega
        · have hOd := HO3.out.later' l4
          have l5 := l3.trans l4
          have ob5 := later_keep l4 ob3
          have HDD : Hid ((wso os es k).2 = dt) := HW2.out (by rw [hq]; simpa using hqk)
          clear hq kp
          have hne : ((k : Int) == (q : Int)) = false := by simp; omega
          go_upto_region 13 with fail
          clear hne
          have t5 := later_keep l5 TR.out
          have kt := block_cell t5
          have ko := block_cell ob5
          obtain ⟨ss, hsl, hrow, hdat⟩ := HOr.out.later l5
          have lA : Later W4 (W4.alloc (.cells #[Value.int .u8 kd, .slice da dt.length dc] 57)) := (Below.refl _ _).alloc (Nat.le_refl _) _
          have HRA := hide (ownsRow_ck hrow (CK.of lA))
          have HDA : Hid (∀ j, j < pre.length → Ow W0.heap.size (W4.alloc (.cells #[Value.int .u8 kd, .slice da dt.length dc] 57)) (ss[j]?.getD undef) (pre[j]?.getD (0, [])).2) := fun j h => (hdat j h).ck (CK.of lA)
          have HOA := hide (hOd.ck (CK.of lA))
          have HNW := hide (new_cells W4 [Value.int .u8 kd, .slice da dt.length dc] 57)
          have HSL := hide hsl
          have hszA : W0.heap.size ≤ W4.heap.size := Nat.le_trans hbr.size l5.size
          clear hrow hdat hOd hsl
          go_wp2_with (at_builtin; refine wpList_append_own _ rfl (.tmp 54) (.tmp 59) 27 rfl W0.heap.size 57 i0 (.agg #[.int .u8 0, .slice none 0 0]) 2 32 Try.underlying27 hi hz0 hz1 hz2 rfl (by decide) _ pre.length (rowO pre ss) rfl HRA.out ⟨W4.heap.size, 0, none⟩ 1 1 [.int .u8 kd, .slice da dt.length dc] rfl rfl HNW.out (by intro u hu; simp only [List.mem_cons, List.not_mem_nil, or_false] at hu; rcases hu with rfl | rfl <;> rfl) (by rw [HTL.out]; simp only [maxLen]; omega) (by rw [HTL.out]; omega) (by simp; omega) ?_)
          intro v6 W6 hrow6 hg6 hnn
          have hO6 : OwO W0.heap.size W6 v6 (pre ++ [(kd, dt)]) := OwO_snoc HSL.out HDA.out HRA.out HOA.out hrow6 hg6
          have hbA : Below W0.heap.size W4 (W4.alloc (.cells #[Value.int .u8 kd, .slice da dt.length dc] 57)) := lA.mono hszA
          have hb6 : Below W0.heap.size W4 W6 := below_app hbA HRA.out hg6 (Nat.le_refl _) (by simp; omega)
          have hn2 : w.heap.size + 1 + 1 < W0.heap.size := by omega
          have t6 := (hb6.block _ hn2).trans t5
          have hbr6 := hbr.after ((l5.mono hbr.size).trans hb6)
          obtain ⟨a6, c6, e6, _, _⟩ := hO6.slice
          rw [List.length_append, List.length_singleton] at e6
          subst e6
          have HO6 := hide hO6
          clear hO6 hrow6 hg6 hnn HRA HDA HOA HNW hbA
          clear kt ko
          have kt := block_cell t6
          have ft := block_frozen t6
          have t7 := heap_set1 t6 7 (.slice a6 (pre.length + 1) c6)
          have hb7 : But (fun b => b = w.heap.size + 1 + 1) W6 (W6.setCell ⟨w.heap.size + 1 + 1, 7, none⟩ (.slice a6 (pre.length + 1) c6)) := (But.refl (fun b => b = w.heap.size + 1 + 1) _).setCell (p := ⟨w.heap.size + 1 + 1, 7, none⟩) rfl _
          have T7 := hide t7
          have HO7 := hide (HO6.out.setS t6 hb7)
          have hbr7 := hbr6.trans hb7
          clear t7 HO6
          go_wp2_with fail
          go_roundw
          case rel => exact ⟨k + 1, _, by omega, by go_num, by simpa using T7.out, by rw [HWK.out hlt, show wso os es k = (kd, dt) from Prod.ext HWD.out HDD.out]; exact HO7.out, hbr7⟩
          case measure => simp [intOf]; omega
    · obtain rfl : k = os.length := by omega
      have hpe := HWE.out rfl
      have HPE := hide hpe
      clear hpe
      have hge : ¬ (os.length : Int) < os.length := by omega
      have le : Below wq.heap.size wq (wq.alloc (.cells #[] 5)) := (Below.refl _ _).alloc (Nat.le_refl _) _
      have HEM := hide (own_empty wq 5)
      have kpe := block_cell (later_keep le pr)
      have HRE := hide ((hM.below (hwr.trans (le.mono hwr.size))))
      have HOr := hide hOr
      clear hOr
      have kt := block_cell tr
      go_wp2_with (at_builtin; refine wpList_app _ rfl (.tmp 62) (.tmp 64) 24 rfl wq.heap.size 5 j0 Try.underlying24 hj hy0 hy1 hy2 _ [] rfl HEM.out w.heap.size _ zm rfl HRE.out (by simp; omega) (by simp) ?_)
      intro v3 W3 hown3 hg3
      have hb3 : Below wq.heap.size wq W3 := below_app le HEM.out hg3 (Nat.le_refl _) (by simp)
      have l3 : Later wq W3 := hb3
      have hO3 := (Ow.of_row hown3).mono hbr.size
      clear hown3 hg3 HEM HRE le
      obtain ⟨a3, c3, rfl, _, _⟩ := hO3.slice
      have t3 := later_keep l3 tr
      clear kt kp kpe
      have kt := block_cell t3
      have ft := block_frozen t3
      have HO3 := hide hO3
      clear hO3
      go_upto_region 15 with fail
      generalize hV : W3.setCell ⟨w.heap.size + 1 + 1, 8, none⟩ _ = V
      have tV := heap_set1 t3 8 (.slice a3 zm.length c3)
      rw [hV] at tV
      have hbV : But (fun b => b = w.heap.size + 1 + 1) W3 V := by rw [← hV]; exact (But.refl (fun b => b = w.heap.size + 1 + 1) _).setCell (p := ⟨w.heap.size + 1 + 1, 8, none⟩) rfl _
      have hOV := (HOr.out.later l3).setS t3 hbV
      have hDV := HO3.out.setS t3 hbV
      have rV := (hbV.block (w.heap.size + 1) (by have := Nat.le_trans hbr.size l3.size; omega) (by omega)).trans ((l3.block (w.heap.size + 1) (by have := hbr.size; omega)).trans ((hbr.block (w.heap.size + 1) (by omega) (by omega)).trans R0.out))
      have hwV0 : Below w.heap.size w V := (hwr.trans (l3.mono hwr.size)).trans (hbV.below (Nat.le_trans hwr.size l3.size) (fun k hk e => by omega))
      clear hV kt ft
      simp only [List.setIfInBounds_toArray, List.set_cons_zero, List.set_cons_succ] at tV
      have kx := block_cell tV
      have ky := block_cell rV
      have fy := block_frozen rV
      have HOV := hide hOV
      have HDV := hide hDV
      clear hOV hDV
      go_wp2_with fail
      generalize hU2 : ((((((((V.setCell ⟨w.heap.size + 1, 0, none⟩ _).setCell ⟨w.heap.size + 1, 1, none⟩ _).setCell ⟨w.heap.size + 1, 2, none⟩ _).setCell ⟨w.heap.size + 1, 3, none⟩ _).setCell ⟨w.heap.size + 1, 4, none⟩ _).setCell ⟨w.heap.size + 1, 5, none⟩ _).setCell ⟨w.heap.size + 1, 6, none⟩ _).setCell ⟨w.heap.size + 1, 7, none⟩ _).setCell ⟨w.heap.size + 1, 8, none⟩ _ = U
      have hU8 : U = putRow V (w.heap.size + 1) 0 [.int .u16 sp, .int .u16 dp, .int .u32 sq, .int .u32 ak, .int .u8 fl, .int .u16 wn, .int .u16 ur, .slice av pre.length cv, .slice a3 zm.length c3] := hU2.symm
      have hbU : But (fun b => b = w.heap.size + 1) V U := by rw [hU8]; exact putRow_but (E := fun b => b = w.heap.size + 1) (n := w.heap.size + 1) rfl _ _ _ _ (But.refl _ _)
      have pU := putRow_all ([.int .u16 sp, .int .u16 dp, .int .u32 sq, .int .u32 ak, .int .u8 fl, .int .u16 wn, .int .u16 ur, .slice av pre.length cv, .slice a3 zm.length c3] : List Value) rV rfl
      rw [← hU8] at pU
      clear hU2 hU8 ky fy kx
      have PU := block_cell pU
      have hwU : Below w.heap.size w U := hwV0.trans (hbU.below hwV0.size (fun k hk e => by omega))
      have OU := (HOV.out.setS rV hbU).mono hb0.size
      have DU := (HDV.out.setS rV hbU).mono hb0.size
      exact bodyPost_ret (v := .agg #[.int .u16 sp, .int .u16 dp, .int .u32 sq, .int .u32 ak, .int .u8 fl, .int .u16 wn, .int .u16 ur, .slice av pre.length cv, .slice a3 zm.length c3]) (by simp [results, Try.results19, go_sem, PU]) rfl ⟨hwU, _, _, rfl, by rw [← HPE.out]; exact OU, DU⟩
end Go.Proofs.Ytclkfmdlgffbeaa
