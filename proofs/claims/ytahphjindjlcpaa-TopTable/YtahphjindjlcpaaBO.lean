/- Package table: Move. -/
import Derived.Test.YtahphjindjlcpaaBM
namespace Go.Proofs.Ytahphjindjlcpaa
open Go.RowKit Go.Shelf
set_option maxRecDepth 100000
set_option linter.unusedVariables false
set_option linter.unusedSimpArgs false

/-- The row at a place, with another time. -/
def mvL (ls : Nat → List Rw) (i k : Nat) (till turn : Int) : Nat → List Rw := fun j => if j = i then (ls i).modify k (fun r => { r with till := till, turn := turn }) else ls j
theorem rws_modify (x y : Int) : ∀ (l : List Rw) (k : Nat), k < l.length → rws (l.modify k (fun r => { r with till := x, turn := y })) = ((rws l).set (k * 8 + 6) (.int .i64 x)).set (k * 8 + 7) (.int .i64 y)
  | r :: l, 0, _ => by simp [rws, rwc]
  | r :: l, k + 1, h => by
    have ih := rws_modify x y l k (by simpa using h)
    unfold rws at ih ⊢
    simp only [List.modify_succ_cons, List.flatMap_cons, ih]
    rw [show (k + 1) * 8 + 6 = (rwc r).length + (k * 8 + 6) from by rw [rwc_length]; omega, show (k + 1) * 8 + 7 = (rwc r).length + (k * 8 + 7) from by rw [rwc_length]; omega]
    rw [List.set_append_right _ _ (by omega), List.set_append_right _ _ (by omega)]
    simp
theorem TBv.moved {base bt : Nat} {W : World} {lim cnt trn : Int} {vs : List Value} {ls : Nat → List Rw} (hT : TBv base W bt lim cnt trn vs ls) (i : Nat) (hi : i < 256) {g cap k : Nat} (hv : vs[i]?.getD undef = .slice (some ⟨g, 0, none⟩) (ls i).length cap) (hk : k < (ls i).length) (x y : Int) :
    TBv base ((W.setCell ⟨g, k * 8 + 6, none⟩ (.int .i64 x)).setCell ⟨g, k * 8 + 7, none⟩ (.int .i64 y)) bt lim cnt trn vs (mvL ls i k x y) := by
  have hb : But (fun b => b = g) W ((W.setCell ⟨g, k * 8 + 6, none⟩ (.int .i64 x)).setCell ⟨g, k * 8 + 7, none⟩ (.int .i64 y)) := ((But.refl (fun b => b = g) W).setCell (p := ⟨g, k * 8 + 6, none⟩) rfl _).setCell (p := ⟨g, k * 8 + 7, none⟩) rfl _
  have hO := hT.2.2.2.1 i hi
  rw [hv] at hO
  have hgt : ∃ cur, W.heap[g]? = some (.cells cur 65 (0, 0)) := by
    rcases hO.2 with ⟨e, _⟩ | ⟨g', cp, cur, e, _, hh, _⟩
    · cases e
    · cases e; exact ⟨cur, hh⟩
  have hne : bt ≠ g := fun e => by obtain ⟨cur, hh⟩ := hgt; rw [← e, hT.2.2.1] at hh; cases hh
  refine ⟨hT.1, hT.2.1, (hb.block bt (Array.getElem?_eq_some_iff.1 hT.2.2.1).1 hne).trans hT.2.2.1, fun j hj => ?_, hT.2.2.2.2⟩
  by_cases hji : j = i
  · subst hji
    have h2 := ((hO.stored (k * 8 + 6) (.int .i64 x)).1.stored (k * 8 + 7) (.int .i64 y)).1
    rw [hv]
    unfold mvL
    rw [if_pos rfl, List.length_modify, rws_modify x y _ k hk]
    exact h2
  · have h2 := hT.2.2.2.1 j hj
    unfold mvL
    rw [if_neg hji]
    refine ⟨h2.1, h2.2.imp id ?_⟩
    rintro ⟨g', cp, cur, e1, e2, e3, r⟩
    have hgg : g' ≠ g := fun e => hT.2.2.2.2 i j hi hj (fun e => hji e.symm) g (by rw [hv]; rfl) (by rw [e1, e]; rfl)
    exact ⟨g', cp, cur, e1, e2, (hb.block g' (Array.getElem?_eq_some_iff.1 e3).1 hgg).trans e3, r⟩

/-- Blocks of other types than the table's stay. -/
def KT (w w' : World) : Prop := ∀ (k : Nat) (cur : Array Value) (t : TypeId) (f : Nat × Nat), w.heap[k]? = some (.cells cur t f) → t ≠ 62 → t ≠ 65 → w'.heap[k]? = some (.cells cur t f)
theorem KT.of_but {E : Nat → Prop} {w w' : World} (h : But E w w') (hE : ∀ g, E g → ∃ cur t f, w.heap[g]? = some (.cells cur t f) ∧ (t = 62 ∨ t = 65)) : KT w w' := fun k cur t f hk h1 h2 => by
  refine (h.block k (Array.getElem?_eq_some_iff.1 hk).1 (fun e => ?_)).trans hk
  obtain ⟨c2, t2, f2, q, ht⟩ := hE k e
  rw [hk] at q
  cases q
  rcases ht with ht | ht
  · exact h1 ht
  · exact h2 ht
theorem KT.of_later {w w' : World} (h : Later w w') : KT w w' := fun k cur t f hk _ _ => later_keep h hk
theorem TBv.typed {base bt : Nat} {W : World} {lim cnt trn : Int} {vs : List Value} {ls : Nat → List Rw} (hT : TBv base W bt lim cnt trn vs ls) (i : Nat) (hi : i < 256) : ∀ g, (g = bt ∨ (vs[i]?.getD undef).ownBlock = some g) → ∃ cur t f, W.heap[g]? = some (.cells cur t f) ∧ (t = 62 ∨ t = 65) := fun g h => by
  rcases h with rfl | h
  · exact ⟨_, _, _, hT.2.2.1, .inl rfl⟩
  · rcases (hT.2.2.2.1 i hi).2 with ⟨e, _⟩ | ⟨g', cp, cur, e, _, hh, _⟩
    · rw [e] at h; cases h
    · rw [e] at h
      cases h
      exact ⟨_, _, _, hh, .inr rfl⟩

/-- What Move answers. -/
def move (ls : Nat → List Rw) (p s d a b till : Int) : Int := if mayb till = false then 2 else if kx p s d a b ls = none then 11 else 0

set_option maxHeartbeats 8000000 in
theorem move_any (base bt : Nat) (lim cnt trn : Int) (ls : Nat → List Rw) (p s d a b till : Int) (w : World) (hT : TB base w bt lim cnt trn ls) (hs : 0 ≤ s ∧ s ≤ 4294967295) (hd : 0 ≤ d ∧ d ≤ 4294967295) (ha : 0 ≤ a ∧ a ≤ 65535) (hb : 0 ≤ b ∧ b ≤ 65535) (hbs : base ≤ w.heap.size) (htr : 0 ≤ trn ∧ trn ≤ 1000000) :
    Calls Try.prog 16 #[.pointer (some ⟨bt, 0, none⟩), .agg #[.int .u8 p, .int .u32 s, .int .u32 d, .int .u16 a, .int .u16 b], .int .i64 till] w fun e w' => e = .returned (.int .i64 (move ls p s d a b till)) ∧
      ((move ls p s d a b till ≠ 0 ∧ TB base w' bt lim cnt trn ls ∧ Below w.heap.size w w') ∨ (move ls p s d a b till = 0 ∧ ∃ k g, kx p s d a b ls = some k ∧ base ≤ g ∧ TB base w' bt lim cnt (trn + 1) (mvL ls (bki p s d a b) k till (trn + 1)) ∧ But (fun h => h = bt ∨ h = g) w w' ∧ KT w w')) := by
  obtain ⟨vs, hT⟩ := hT
  have lb0 : Later w (w.alloc (.cells #[.int .u8 p, .int .u32 s, .int .u32 d, .int .u16 a, .int .u16 b] 26)) := (Below.refl _ _).alloc (Nat.le_refl _) _
  have t0 := heap_alloc_new w (.cells #[.int .u8 p, .int .u32 s, .int .u32 d, .int .u16 a, .int .u16 b] 26)
  go_enter Try.func16, Try.ntmps16
  go_wp2_with fail
  generalize w.alloc (.cells #[.int .u8 p, .int .u32 s, .int .u32 d, .int .u16 a, .int .u16 b] 26) = w0 at *
  refine (mayBe_any till w0).mono ?_
  rintro e w1 ⟨rfl, rfl⟩
  have hT1 := hT.later lb0
  cases hm : mayb till with
  | false =>
    have HQ : Hid (move ls p s d a b till = 2) := if_pos hm
    clear hm
    go_wp2_with fail
    go_ret
    exact ⟨by rw [HQ.out]; rfl, .inl ⟨by rw [HQ.out]; decide, ⟨vs, hT1⟩, lb0⟩⟩
  | true =>
    have k0 := block_cell t0
    go_wp2_with fail
    clear k0
    refine (tfind_any base bt lim cnt trn vs ls p s d a b w1 hT1 hs hd ha hb).mono ?_
    rintro e w2 ⟨hb2, ⟨hk, rfl⟩ | ⟨k, g2, cap, hk, hkl, hv, rfl⟩⟩
    · have L2 := lb0.trans (show Later w1 w2 from hb2)
      have hT2 := hT.later L2
      have HQ : Hid (move ls p s d a b till = 11) := by show _ = _; unfold move; rw [hm, hk]; simp
      clear hm hk
      go_wp2_with fail
      go_ret
      exact ⟨by rw [HQ.out]; rfl, .inl ⟨by rw [HQ.out]; decide, ⟨vs, hT2⟩, L2⟩⟩
    · have L2 := lb0.trans (show Later w1 w2 from hb2)
      have hT2 := hT.later L2
      have HQ : Hid (move ls p s d a b till = 0) := by show _ = _; unfold move; rw [hm, hk]; simp
      have HK := hide hk
      have HV := hide hv
      clear hm hk hv
      go_wp2_with fail
      refine (turn_any base bt lim cnt trn vs ls w2 hT2 htr).mono ?_
      rintro e w3 ⟨rfl, hb3, hT3⟩
      have hcc := hT3.row _ (bki_lt p s d a b) HV.out hkl
      have c6 := hcc 6 (by omega)
      have c7 := hcc 7 (by omega)
      have hgO := hT3.2.2.2.1 _ (bki_lt p s d a b)
      rw [HV.out] at hgO
      have hgt : base ≤ g2 ∧ ∃ cur, w3.heap[g2]? = some (.cells cur 65 (0, 0)) := by
        rcases hgO.2 with ⟨e, _⟩ | ⟨g', cp, cur, e, h1, hh, _⟩
        · cases e
        · cases e; exact ⟨h1, cur, hh⟩
      obtain ⟨hbg, cur, hcur⟩ := hgt
      have F := block_frozen hcur
      have HM := hide (hT3.moved _ (bki_lt p s d a b) HV.out hkl till (trn + 1))
      have HB : Hid (But (fun h => h = bt ∨ h = g2) w ((w3.setCell ⟨g2, k * 8 + 6, none⟩ (.int .i64 till)).setCell ⟨g2, k * 8 + 7, none⟩ (.int .i64 (trn + 1)))) := by
        show But _ _ _
        refine ((But.trans (But.of L2) (⟨hb3.os, hb3.tape, hb3.output, hb3.size, fun q hq he => hb3.block q hq (fun e => he (.inl e))⟩ : But (fun h => h = bt ∨ h = g2) w2 w3)).setCell (p := ⟨g2, k * 8 + 6, none⟩) (.inr rfl) _).setCell (p := ⟨g2, k * 8 + 7, none⟩) (.inr rfl) _
      have HKT : Hid (KT w ((w3.setCell ⟨g2, k * 8 + 6, none⟩ (.int .i64 till)).setCell ⟨g2, k * 8 + 7, none⟩ (.int .i64 (trn + 1)))) := KT.of_but HB.out (fun g hg => hT.typed _ (bki_lt p s d a b) g (hg.imp id (fun e => by rw [HV.out, e]; rfl)))
      clear hcc hgO hT3 hT2 hT1 hT hb3 hcur
      simp only [rwc, List.getElem?_cons_zero, List.getElem?_cons_succ] at c6 c7
      go_wp2_with fail
      go_ret
      exact ⟨by rw [HQ.out]; rfl, .inr ⟨HQ.out, k, g2, HK.out, hbg, ⟨vs, HM.out⟩, HB.out, HKT.out⟩⟩
end Go.Proofs.Ytahphjindjlcpaa
