/- Several texts in one. -/
import Derived.Test.YtahphjindjlcpaaBW
import Derived.Test.YtahphjindjlcpaaRows
import Derived.ProofKit
import Derived.OpenShut
import Derived.Lib.SmallJoins
import Derived.ChangeSlices
import Derived.Test.YtahphjindjlcpaaHd
import Derived.Test.YtahphjindjlcpaaBM
import Derived.Test.YtahphjindjlcpaaKK
import Derived.Laws.Closers25b
import Derived.Test.YtahphjindjlcpaaRu
import Derived.Test.YtahphjindjlcpaaRv
import Derived.Test.YtahphjindjlcpaaBH
import Derived.Test.YtahphjindjlcpaaBK
/- A deed on both tables. -/
namespace Go.Proofs.Ytahphjindjlcpaa
open Go.RowKit Go.Shelf
set_option maxRecDepth 100000
set_option linter.unusedVariables false
set_option linter.unusedSimpArgs false

/-- Blocks of other types than the document's table's stay. -/
def KE (w w' : World) : Prop := ∀ (k : Nat) (cur : Array Value) (t : TypeId) (f : Nat × Nat), w.heap[k]? = some (.cells cur t f) → t ≠ 69 → t ≠ 86 → w'.heap[k]? = some (.cells cur t f)
/-- Blocks of other types than both tables' stay. -/
def KD (w w' : World) : Prop := ∀ (k : Nat) (cur : Array Value) (t : TypeId) (f : Nat × Nat), w.heap[k]? = some (.cells cur t f) → t ≠ 62 → t ≠ 65 → t ≠ 69 → t ≠ 86 → w'.heap[k]? = some (.cells cur t f)
theorem KD.pre : Pre KD := ⟨fun _ _ _ _ _ h _ _ _ _ => h, fun _ _ _ h1 h2 k cur t f h a b c d => h2 k cur t f (h1 k cur t f h a b c d) a b c d⟩
theorem KD.refl (w : World) : KD w w := KD.pre.1 w
theorem KD.of_kt {w w' : World} (h : KT w w') : KD w w' := fun k cur t f hk a b _ _ => h k cur t f hk a b
theorem KD.of_ke {w w' : World} (h : KE w w') : KD w w' := fun k cur t f hk _ _ c d => h k cur t f hk c d
theorem KD.of_later {w w' : World} (h : Later w w') : KD w w' := fun k cur t f hk _ _ _ _ => later_keep h hk
theorem KE.of_later {w w' : World} (h : Later w w') : KE w w' := fun k cur t f hk _ _ => later_keep h hk
theorem DT.ke {base : Nat} {w w' : World} {b : Nat} {v : Value} {lim sq : Int} {l : List Rw} (h : DT base w b v lim sq l) (k : But (fun g => g = b ∨ v.ownBlock = some g) w w') : KE w w' := fun x cur t f hx h1 h2 => by
  refine (k.block x (Array.getElem?_eq_some_iff.1 hx).1 (fun e => ?_)).trans hx
  rcases e with rfl | e
  · rw [h.2.1] at hx
    cases hx
    exact h1 rfl
  · obtain ⟨_, ⟨e2, _⟩ | ⟨g, cap, cu, hv, hg, hh, r⟩⟩ := h.2.2
    · rw [e2] at e; cases e
    · rw [hv] at e
      cases e
      rw [hh] at hx
      cases hx
      exact h2 rfl
theorem DT.kt {base : Nat} {w w' : World} {b : Nat} {v : Value} {lim sq : Int} {l : List Rw} (h : DT base w b v lim sq l) (k : KT w w') : DT base w' b v lim sq l := by
  refine ⟨h.1, k _ _ _ _ h.2.1 (by decide) (by decide), ?_⟩
  obtain ⟨q1, q2 | ⟨g, cap, cu, hv, hg, hh, r⟩⟩ := h.2.2
  · exact ⟨q1, .inl q2⟩
  · exact ⟨q1, .inr ⟨g, cap, cu, hv, hg, k _ _ _ _ hh (by decide) (by decide), r⟩⟩
theorem TB.ke {base bt : Nat} {w w' : World} {lim cnt trn : Int} {ls : Nat → List Rw} (h : TB base w bt lim cnt trn ls) (k : KE w w') : TB base w' bt lim cnt trn ls := by
  obtain ⟨vs, h1, h2, h3, h4, h5⟩ := h
  refine ⟨vs, h1, h2, k _ _ _ _ h3 (by decide) (by decide), fun i hi => ?_, h5⟩
  obtain ⟨q1, q2 | ⟨g, cap, cu, hv, hg, hh, r⟩⟩ := h4 i hi
  · exact ⟨q1, .inl q2⟩
  · exact ⟨q1, .inr ⟨g, cap, cu, hv, hg, k _ _ _ _ hh (by decide) (by decide), r⟩⟩
theorem DT.below {base : Nat} {w w' : World} {b : Nat} {v : Value} {lim sq : Int} {l : List Rw} (h : DT base w b v lim sq l) (hb : base ≤ w.heap.size) (k : But (fun g => g = b ∨ v.ownBlock = some g) w w') : Below base w w' := k.below hb (fun x hx e => by rcases e with rfl | e; (· have := h.1; omega); (· have := (h.lt e).1; omega))

/-- As many rows as the limit lets in, each with a time that may be. -/
def Wfl (lim : Int) (l : List Rw) : Prop := (l.length : Int) ≤ lim ∧ ∀ r ∈ l, 0 ≤ r.till ∧ r.till ≤ 1099511627776
/-- No turn stands twice, and none is above the last. -/
def Wft (trn : Int) (l : List Rw) : Prop := (∀ r ∈ l, r.turn ≤ trn) ∧ l.Pairwise (fun x y => x.turn ≠ y.turn)
theorem Wft.add {trn : Int} {l : List Rw} (h : Wft trn l) {r : Rw} (hr : r.turn = trn + 1) : Wft (trn + 1) (l ++ [r]) := by
  refine ⟨fun x hx => ?_, List.pairwise_append.2 ⟨h.2, by simp, fun x hx y hy => ?_⟩⟩
  · rcases List.mem_append.1 hx with hx | hx
    · have := h.1 x hx; omega
    · obtain rfl : x = r := by simpa using hx
      omega
  · obtain rfl : y = r := by simpa using hy
    have := h.1 x hx
    omega
theorem Wft.move {trn : Int} {l : List Rw} (h : Wft trn l) (k : Nat) (t : Int) : Wft (trn + 1) (l.modify k (fun r => { r with till := t, turn := trn + 1 })) := by
  refine ⟨fun x hx => ?_, ?_⟩
  · obtain ⟨i, hi, rfl⟩ := List.getElem_of_mem hx
    rw [List.getElem_modify]
    have := h.1 (l[i]'(by simpa using hi)) (List.getElem_mem _)
    split
    · show trn + 1 ≤ trn + 1
      omega
    · omega
  · rw [List.pairwise_iff_getElem]
    intro i j hi hj hij
    have hi' : i < l.length := by simpa using hi
    have hj' : j < l.length := by simpa using hj
    have h1 := h.1 l[i] (List.getElem_mem _)
    have h2 := h.1 l[j] (List.getElem_mem _)
    have h3 := List.pairwise_iff_getElem.1 h.2 i j hi' hj' hij
    rw [List.getElem_modify, List.getElem_modify]
    split
    · split
      · omega
      · show trn + 1 ≠ l[j].turn
        omega
    · split
      · show l[i].turn ≠ trn + 1
        omega
      · exact h3
theorem Wft.erase {trn : Int} {l : List Rw} (h : Wft trn l) (k : Nat) : Wft trn (l.eraseIdx k) := ⟨fun r hr => h.1 r (List.mem_of_mem_eraseIdx hr), h.2.sublist (List.eraseIdx_sublist l k)⟩
theorem Wft.nil (trn : Int) : Wft trn [] := ⟨fun r hr => (by cases hr), List.Pairwise.nil⟩
/-- Each row stands under its own key, and its key's numbers are of their kinds. -/
def Wfk (l : List Rw) : Prop := ∀ r ∈ l, kyp r.p r.a = r.a ∧ (0 ≤ r.s ∧ r.s ≤ 4294967295) ∧ (0 ≤ r.d ∧ r.d ≤ 4294967295) ∧ (0 ≤ r.a ∧ r.a ≤ 65535) ∧ (0 ≤ r.b ∧ r.b ≤ 65535)
theorem kyp_twice (p a : Int) : kyp p (kyp p a) = kyp p a := by unfold kyp; split <;> rfl
theorem kyp_bd {p a : Int} (h : 0 ≤ a ∧ a ≤ 65535) : 0 ≤ kyp p a ∧ kyp p a ≤ 65535 := by unfold kyp; split <;> omega
theorem Wfk.modify {l : List Rw} (h : Wfk l) (k : Nat) (x y : Int) : Wfk (l.modify k (fun r => { r with till := x, turn := y })) := fun r hr => by
  obtain ⟨i, hi, rfl⟩ := List.getElem_of_mem hr
  have := h (l[i]'(by simpa using hi)) (List.getElem_mem _)
  rw [List.getElem_modify]
  split <;> exact this
/-- Both tables, which hold the same. -/
def PT (base : Nat) (W : World) (bt bd : Nat) (lim : Int) (n : Nat) : Prop := ∃ ls v l trn, TB base W bt lim (l.length : Nat) trn ls ∧ DT base W bd v lim trn l ∧ Rel ls l ∧ (∀ i, (ls i).length ≤ n) ∧ l.length ≤ n ∧ 0 ≤ trn ∧ trn ≤ n ∧ Wfl lim l ∧ Wft trn l ∧ Wfk l
theorem PT.later {base : Nat} {A B : World} {bt bd : Nat} {lim : Int} {n : Nat} (h : PT base A bt bd lim n) (k : Later A B) : PT base B bt bd lim n := by
  obtain ⟨ls, v, l, trn, h1, h2, h3⟩ := h
  exact ⟨ls, v, l, trn, h1.later k, h2.later k, h3⟩
theorem PT.mono {base : Nat} {A : World} {bt bd : Nat} {lim : Int} {n m : Nat} (h : PT base A bt bd lim n) (k : n ≤ m) : PT base A bt bd lim m := by
  obtain ⟨ls, v, l, trn, h1, h2, h3, h4, h5, h6, h7, h8⟩ := h
  exact ⟨ls, v, l, trn, h1, h2, h3, fun i => Nat.le_trans (h4 i) k, Nat.le_trans h5 k, h6, by omega, h8⟩
theorem key_neq {p s d a b : Int} {r : Rw} (h : isK p s d (kyp p a) b r = false) (id till sq : Int) : rky r ≠ rky ⟨p, s, d, kyp p a, b, id, till, sq⟩ := fun e => by
  have : isK p s d (kyp p a) b r = true := isK_iff.2 (by rw [e]; rfl)
  rw [h] at this
  cases this
theorem pe_eq {ls : Nat → List Rw} {l : List Rw} (h : Rel ls l) (lim p s d a b till : Int) : pute lim (l.length : Nat) ls p s d a b till = rpe lim l p s d a b till := by
  unfold pute rpe
  by_cases hk : kx p s d a b ls = none
  · rw [hk, (h.kxe p s d a b).1 hk]
  · have hk2 : kix p s d (kyp p a) b l ≠ none := fun e => hk ((h.kxe p s d a b).2 e)
    rw [if_pos hk, if_pos hk2]
theorem me_eq {ls : Nat → List Rw} {l : List Rw} (h : Rel ls l) (p s d a b till : Int) : move ls p s d a b till = rme l p s d a b till := by
  unfold move rme
  by_cases hk : kx p s d a b ls = none
  · rw [if_pos hk, if_pos ((h.kxe p s d a b).1 hk)]
  · rw [if_neg hk, if_neg (fun e => hk ((h.kxe p s d a b).2 e))]
theorem de_eq {ls : Nat → List Rw} {l : List Rw} (h : Rel ls l) (p s d a b : Int) : dpe ls p s d a b = rde l p s d a b := by
  unfold dpe rde
  by_cases hk : kx p s d a b ls = none
  · rw [if_pos hk, if_pos ((h.kxe p s d a b).1 hk)]
  · rw [if_neg hk, if_neg (fun e => hk ((h.kxe p s d a b).2 e))]
end Go.Proofs.Ytahphjindjlcpaa

/- A deed on both tables, call by call. -/
namespace Go.Proofs.Ytahphjindjlcpaa
open Go.RowKit Go.Shelf
set_option maxRecDepth 100000
set_option linter.unusedVariables false
set_option linter.unusedSimpArgs false

theorem TBv.below_but {base bt : Nat} {w w' : World} {lim cnt trn : Int} {vs : List Value} {ls : Nat → List Rw} (h : TBv base w bt lim cnt trn vs ls) (i : Nat) (hi : i < 256) (hb : base ≤ w.heap.size) (k : But (fun g => g = bt ∨ (vs[i]?.getD undef).ownBlock = some g) w w') : Below base w w' := k.below hb (fun x hx e => by
  rcases e with e | e
  · have := h.2.1; omega
  · have := ((h.2.2.2.1 i hi).lt x e).1; omega)

theorem addL_len {ls : Nat → List Rw} {i n : Nat} {r : Rw} (h : ∀ j, (ls j).length ≤ n) : ∀ j, (addL ls i r j).length ≤ n + 1 := fun j => by
  unfold addL
  have := h j
  have := h i
  split <;> simp <;> omega
theorem mvL_len {ls : Nat → List Rw} {i k n : Nat} {x y : Int} (h : ∀ j, (ls j).length ≤ n) : ∀ j, (mvL ls i k x y j).length ≤ n + 1 := fun j => by
  unfold mvL
  have := h j
  have := h i
  split <;> simp <;> omega
theorem dpL_len {ls : Nat → List Rw} {i k n : Nat} (h : ∀ j, (ls j).length ≤ n) : ∀ j, (dpL ls i k j).length ≤ n + 1 := fun j => by
  unfold dpL
  have := h j
  have := h i
  split
  · rw [List.length_eraseIdx]; split <;> omega
  · omega

def Rg5 (p s d a b : Int) : Prop := (0 ≤ s ∧ s ≤ 4294967295) ∧ (0 ≤ d ∧ d ≤ 4294967295) ∧ (0 ≤ a ∧ a ≤ 65535) ∧ (0 ≤ b ∧ b ≤ 65535)

theorem pt_put (base bt bd : Nat) (lim : Int) (n : Nat) (p s d a b id till : Int) (w : World) (h : PT base w bt bd lim n) (hn : n ≤ 1000) (hlm : lim ≤ 4096) (hg : Rg5 p s d a b) (hbs : base ≤ w.heap.size) :
    Calls Try.prog 14 #[.pointer (some ⟨bt, 0, none⟩), .agg #[.int .u8 p, .int .u32 s, .int .u32 d, .int .u16 a, .int .u16 b], .int .i64 id, .int .i64 till] w fun e w1 => ∃ x, e = .returned (.int .i64 x) ∧ KD w w1 ∧ Below base w w1 ∧
      Calls Try.prog 28 #[.pointer (some ⟨bd, 0, none⟩), .agg #[.int .u8 p, .int .u32 s, .int .u32 d, .int .u16 a, .int .u16 b], .int .i64 id, .int .i64 till] w1 fun e w2 => e = .returned (.int .i64 x) ∧ KD w1 w2 ∧ Below base w1 w2 ∧ PT base w2 bt bd lim (n + 1) := by
  obtain ⟨ls, v, l, trn, ⟨vs, hT⟩, hD, hR, hl1, hl2, ht0, ht1, hwf, hwt, hwk⟩ := h
  refine (put_any base bt lim l.length trn vs ls p s d a b id till w hT hg.1 hg.2.1 hg.2.2.1 hg.2.2.2 hbs (by omega) (by omega) hlm (by have := hl1 (bki p s d a b); omega)).mono ?_
  rintro e w1 ⟨rfl, h1⟩
  rw [pe_eq hR] at h1 ⊢
  generalize hx : rpe lim l p s d a b till = x at h1 ⊢
  refine ⟨x, rfl, ?_⟩
  rcases h1 with ⟨h0, hT1, hb1⟩ | ⟨h0, hT1, hb1⟩
  · refine ⟨.of_later hb1, hb1.mono hbs, ?_⟩
    have hs1 := hb1.size
    have hD1 := hD.later hb1
    refine (rput_any base bd v lim trn l p s d a b id till w1 hD1 (by omega) (by omega) (by omega)).mono ?_
    rintro e w2 ⟨rfl, h2⟩
    rw [hx] at h2
    refine ⟨by rw [hx], ?_⟩
    rcases h2 with ⟨_, v', hD2, hbt, _⟩ | ⟨h3, _⟩
    · refine ⟨.of_ke (hD1.ke hbt), hD1.below (by omega) hbt, ls, v', l, trn, TB.ke ⟨vs, hT1⟩ (hD1.ke hbt), hD2, hR, fun i => by have := hl1 i; omega, by omega, ht0, by omega, hwf, hwt, hwk⟩
    · exact absurd h3 h0
  · have hk1 : KT w w1 := KT.of_but hb1 (hT.typed _ (bki_lt p s d a b))
    have hbl := hT.below_but _ (bki_lt p s d a b) hbs hb1
    refine ⟨.of_kt hk1, hbl, ?_⟩
    have hs1 := hbl.size
    have hD1 := hD.kt hk1
    refine (rput_any base bd v lim trn l p s d a b id till w1 hD1 (by omega) (by omega) (by omega)).mono ?_
    rintro e w2 ⟨rfl, h2⟩
    rw [hx] at h2
    refine ⟨by rw [hx], ?_⟩
    rcases h2 with ⟨h3, _⟩ | ⟨_, v', hD2, hbt, _⟩
    · exact absurd h0 h3
    · have hkn : kix p s d (kyp p a) b l = none := by
        subst h0
        unfold rpe at hx
        by_cases hk : kix p s d (kyp p a) b l = none
        · exact hk
        · rw [if_pos hk] at hx
          split at hx <;> omega
      have hwa : Wfl lim (l ++ [⟨p, s, d, kyp p a, b, id, till, trn + 1⟩]) := by
        subst h0
        unfold rpe at hx
        refine ⟨?_, fun r hr => ?_⟩
        · rw [List.length_append, List.length_singleton]
          split at hx
          · omega
          · split at hx
            · omega
            · split at hx <;> omega
        · rcases List.mem_append.1 hr with h | h
          · exact hwf.2 r h
          · obtain rfl : r = _ := by simpa using h
            split at hx
            · omega
            · rename_i hmb
              have : mayb till = true := by simpa using hmb
              unfold mayb at this
              simpa using this
      have hadd := hR.add ⟨p, s, d, kyp p a, b, id, till, trn + 1⟩ (fun r hr => key_neq (kix_none_iff.1 hkn r hr) id till (trn + 1))
      have hbk : bkr ⟨p, s, d, kyp p a, b, id, till, trn + 1⟩ = bki p s d a b := bkr_key (isK_iff.2 rfl)
      rw [hbk] at hadd
      refine ⟨.of_ke (hD1.ke hbt), hD1.below (by omega) hbt, _, v', _, trn + 1, ?_, hD2, hadd, addL_len hl1, by simp; omega, by omega, by omega, hwa, hwt.add rfl, fun r hr => by
        rcases List.mem_append.1 hr with hr | hr
        · exact hwk r hr
        · obtain rfl : r = _ := by simpa using hr
          exact ⟨kyp_twice p a, hg.1, hg.2.1, kyp_bd hg.2.2.1, hg.2.2.2⟩⟩
      have := TB.ke hT1 (hD1.ke hbt)
      simp only [List.length_append, List.length_cons, List.length_nil]
      exact this

theorem pt_move (base bt bd : Nat) (lim : Int) (n : Nat) (p s d a b till : Int) (w : World) (h : PT base w bt bd lim n) (hn : n ≤ 1000) (hg : Rg5 p s d a b) (hbs : base ≤ w.heap.size) :
    Calls Try.prog 16 #[.pointer (some ⟨bt, 0, none⟩), .agg #[.int .u8 p, .int .u32 s, .int .u32 d, .int .u16 a, .int .u16 b], .int .i64 till] w fun e w1 => ∃ x, e = .returned (.int .i64 x) ∧ KD w w1 ∧ Below base w w1 ∧
      Calls Try.prog 29 #[.pointer (some ⟨bd, 0, none⟩), .agg #[.int .u8 p, .int .u32 s, .int .u32 d, .int .u16 a, .int .u16 b], .int .i64 till] w1 fun e w2 => e = .returned (.int .i64 x) ∧ KD w1 w2 ∧ Below base w1 w2 ∧ PT base w2 bt bd lim (n + 1) := by
  obtain ⟨ls, v, l, trn, hT, hD, hR, hl1, hl2, ht0, ht1, hwf, hwt, hwk⟩ := h
  refine (move_any base bt lim l.length trn ls p s d a b till w hT hg.1 hg.2.1 hg.2.2.1 hg.2.2.2 hbs (by omega)).mono ?_
  rintro e w1 ⟨rfl, h1⟩
  rw [me_eq hR] at h1 ⊢
  generalize hx : rme l p s d a b till = x at h1 ⊢
  refine ⟨x, rfl, ?_⟩
  rcases h1 with ⟨h0, hT1, hb1⟩ | ⟨h0, k, g, hkx, hbg, hT1, hb1, hk1⟩
  · refine ⟨.of_later hb1, hb1.mono hbs, ?_⟩
    have hs1 := hb1.size
    have hD1 := hD.later hb1
    refine (rmove_any base bd v lim trn l p s d a b till w1 hD1 (by omega) (by omega) (by omega)).mono ?_
    rintro e w2 ⟨rfl, h2⟩
    rw [hx] at h2
    refine ⟨by rw [hx], ?_⟩
    rcases h2 with ⟨_, v', hD2, hbt, _⟩ | ⟨h3, _⟩
    · refine ⟨.of_ke (hD1.ke hbt), hD1.below (by omega) hbt, ls, v', l, trn, TB.ke hT1 (hD1.ke hbt), hD2, hR, fun i => by have := hl1 i; omega, by omega, ht0, by omega, hwf, hwt, hwk⟩
    · exact absurd h3 h0
  · have hbl : Below base w w1 := hb1.below hbs (fun x hx e => by rcases e with rfl | rfl; (· obtain ⟨vs, hv⟩ := hT; have := hv.2.1; omega); (· omega))
    refine ⟨.of_kt hk1, hbl, ?_⟩
    have hs1 := hbl.size
    have hD1 := hD.kt hk1
    refine (rmove_any base bd v lim trn l p s d a b till w1 hD1 (by omega) (by omega) (by omega)).mono ?_
    rintro e w2 ⟨rfl, h2⟩
    rw [hx] at h2
    refine ⟨by rw [hx], ?_⟩
    rcases h2 with ⟨h3, _⟩ | ⟨_, k', hk', v', hD2, hbt, _⟩
    · exact absurd h0 h3
    · have hwa : Wfl lim (l.modify k' (fun r => { r with till := till, turn := trn + 1 })) := by
        subst h0
        unfold rme at hx
        refine ⟨by rw [List.length_modify]; exact hwf.1, fun r hr => ?_⟩
        rw [modify_map hR.up.uq hk'] at hr
        obtain ⟨r0, hr0, rfl⟩ := List.mem_map.1 hr
        split
        · split at hx
          · omega
          · rename_i hmb
            have : mayb till = true := by simpa using hmb
            unfold mayb at this
            simpa using this
        · exact hwf.2 r0 hr0
      refine ⟨.of_ke (hD1.ke hbt), hD1.below (by omega) hbt, _, v', _, trn + 1, ?_, hD2, hR.moved hkx hk' till (trn + 1), mvL_len hl1, by rw [List.length_modify]; omega, by omega, by omega, hwa, hwt.move k' till, hwk.modify k' till (trn + 1)⟩
      rw [List.length_modify]
      exact TB.ke hT1 (hD1.ke hbt)

theorem pt_drop (base bt bd : Nat) (lim : Int) (n : Nat) (p s d a b : Int) (w : World) (h : PT base w bt bd lim n) (hn : n ≤ 1000) (hg : Rg5 p s d a b) (hbs : base ≤ w.heap.size) :
    Calls Try.prog 17 #[.pointer (some ⟨bt, 0, none⟩), .agg #[.int .u8 p, .int .u32 s, .int .u32 d, .int .u16 a, .int .u16 b]] w fun e w1 => ∃ x, e = .returned (.int .i64 x) ∧ KD w w1 ∧ Below base w w1 ∧
      Calls Try.prog 30 #[.pointer (some ⟨bd, 0, none⟩), .agg #[.int .u8 p, .int .u32 s, .int .u32 d, .int .u16 a, .int .u16 b]] w1 fun e w2 => e = .returned (.int .i64 x) ∧ KD w1 w2 ∧ Below base w1 w2 ∧ PT base w2 bt bd lim (n + 1) := by
  obtain ⟨ls, v, l, trn, hT, hD, hR, hl1, hl2, ht0, ht1, hwf, hwt, hwk⟩ := h
  refine (tdrop_any base bt lim l.length trn ls p s d a b w hT hR.uq hg.1 hg.2.1 hg.2.2.1 hg.2.2.2 hbs (by omega)).mono ?_
  rintro e w1 ⟨rfl, ⟨hbl, hk1⟩, h1⟩
  rw [de_eq hR]
  refine ⟨_, rfl, .of_kt hk1, hbl, ?_⟩
  have hs1 := hbl.size
  have hD1 := hD.kt hk1
  refine (rtdrop_any base bd v lim trn l p s d a b w1 hD1 (by omega) (by omega)).mono ?_
  rintro e w2 ⟨rfl, h2⟩
  refine ⟨rfl, ?_⟩
  have hke := hR.kxe p s d a b
  rcases h1 with ⟨hk, hT1⟩ | ⟨k, hk, hT1⟩
  · rcases h2 with ⟨_, v', hD2, hbt, _⟩ | ⟨k', hk', _⟩
    · refine ⟨.of_ke (hD1.ke hbt), hD1.below (by omega) hbt, ls, v', l, trn, TB.ke hT1 (hD1.ke hbt), hD2, hR, fun i => by have := hl1 i; omega, by omega, ht0, by omega, hwf, hwt, hwk⟩
    · rw [hke.1 hk] at hk'; cases hk'
  · rcases h2 with ⟨hk', _⟩ | ⟨k', hk', v', hD2, hbt, _⟩
    · rw [hke.2 hk'] at hk; cases hk
    · obtain ⟨hkl, _⟩ := kix_at hk'
      have hle : (l.eraseIdx k').length = l.length - 1 := by rw [List.length_eraseIdx, if_pos hkl]
      refine ⟨.of_ke (hD1.ke hbt), hD1.below (by omega) hbt, _, v', _, trn, ?_, hD2, hR.dropped hk hk', dpL_len hl1, by omega, ht0, by omega, ⟨by have := hwf.1; omega, fun r hr => hwf.2 r (List.mem_of_mem_eraseIdx hr)⟩, hwt.erase k', fun r hr => hwk r (List.mem_of_mem_eraseIdx hr)⟩
      have := TB.ke hT1 (hD1.ke hbt)
      rw [hle]
      rw [show ((l.length - 1 : Nat) : Int) = (l.length : Int) - 1 from by omega]
      exact this
end Go.Proofs.Ytahphjindjlcpaa

/- A deed on both tables: the law's do. -/
namespace Go.Proofs.Ytahphjindjlcpaa
open Go.RowKit Go.Shelf
set_option maxRecDepth 100000
set_option linter.unusedVariables false
set_option linter.unusedSimpArgs false

set_option maxHeartbeats 8000000 in
theorem do6_any (base bt bd : Nat) (lim : Int) (n : Nat) (kd p s d a b id till : Int) (w : World) (h : PT base w bt bd lim n) (hn : n ≤ 1000) (hlm : lim ≤ 4096) (hg : Rg5 p s d a b) (hbs : base ≤ w.heap.size) :
    Calls Try.prog 12 #[.pointer (some ⟨bt, 0, none⟩), .pointer (some ⟨bd, 0, none⟩), .agg #[.int .i64 kd, .int .u8 p, .int .u32 s, .int .u32 d, .int .u16 a, .int .u16 b, .int .i64 id, .int .i64 till]] w fun e w' => e = .returned (.bool true) ∧ PT base w' bt bd lim (n + 1) ∧ Below base w w' := by
  have lb0 : Later w (w.alloc (.cells #[.int .i64 kd, .int .u8 p, .int .u32 s, .int .u32 d, .int .u16 a, .int .u16 b, .int .i64 id, .int .i64 till] 28)) := (Below.refl _ _).alloc (Nat.le_refl _) _
  have c0 := heap_alloc_new w (.cells #[.int .i64 kd, .int .u8 p, .int .u32 s, .int .u32 d, .int .u16 a, .int .u16 b, .int .i64 id, .int .i64 till] 28)
  have hP0 := h.later lb0
  clear h
  have HG := hide hg
  clear hg
  go_enter Try.func12, Try.ntmps12
  have k0 := block_cell c0
  by_cases hk0 : kd = 0
  · subst hk0
    go_upto_region 3 with fail
    clear k0
    generalize w.alloc _ = w0 at *
    refine anyT_begin (R := KD) 18 rfl (by kernel_rfl) ?_
    have ld : Later w0 w0.drew := Later.drew w0
    have lwd := lb0.trans ld
    have cd := later_keep ld c0
    have hPd := hP0.later ld
    clear hP0 c0
    generalize w0.drew = Wd at *
    have hwsz := lwd.size
    have ha : ∀ v1, KD Wd v1 → ∀ j, v1.cell? ⟨w.heap.size, j, none⟩ = _ := fun v1 hv => block_cell (hv _ _ _ _ cd (by decide) (by decide) (by decide) (by decide))
    refine anyT_val KD.pre 0 rfl (by kernel_rfl) (by kernel_rfl) (by kernel_rfl) (fun _ _ _ _ h => h) rfl ?_; apply Exists.intro; refine ⟨fun v1 hv1 => ?_, ?_⟩; (· (go_simp; rfl)); simp only [Act.put, List.setIfInBounds_toArray, List.set_cons_zero, List.set_cons_succ]
    refine anyT_val KD.pre 1 rfl (by kernel_rfl) (by kernel_rfl) (by kernel_rfl) (fun _ _ _ _ h => h) rfl ?_; apply Exists.intro; refine ⟨fun v1 hv1 => ?_, ?_⟩; (· (go_simp; rfl)); simp only [Act.put, List.setIfInBounds_toArray, List.set_cons_zero, List.set_cons_succ]
    refine anyT_val KD.pre 2 rfl (by kernel_rfl) (by kernel_rfl) (by kernel_rfl) (fun _ _ _ _ h => h) rfl ?_; apply Exists.intro; refine ⟨fun v1 hv1 => ?_, ?_⟩; (· (go_simp; rfl)); simp only [Act.put, List.setIfInBounds_toArray, List.set_cons_zero, List.set_cons_succ]
    refine anyT_val KD.pre 3 rfl (by kernel_rfl) (by kernel_rfl) (by kernel_rfl) (fun _ _ _ _ h => h) rfl ?_; apply Exists.intro; refine ⟨fun v1 hv1 => ?_, ?_⟩; (· (go_simp; rfl)); simp only [Act.put, List.setIfInBounds_toArray, List.set_cons_zero, List.set_cons_succ]
    refine anyT_val KD.pre 4 rfl (by kernel_rfl) (by kernel_rfl) (by kernel_rfl) (fun _ _ _ _ h => h) rfl ?_; apply Exists.intro; refine ⟨fun v1 hv1 => ?_, ?_⟩; (· (go_simp; rfl)); simp only [Act.put, List.setIfInBounds_toArray, List.set_cons_zero, List.set_cons_succ]
    refine anyT_val KD.pre 5 rfl (by kernel_rfl) (by kernel_rfl) (by kernel_rfl) (fun _ _ _ _ h => h) rfl ?_; apply Exists.intro; refine ⟨fun v1 hv1 => ?_, ?_⟩; (· (go_simp; rfl)); simp only [Act.put, List.setIfInBounds_toArray, List.set_cons_zero, List.set_cons_succ]
    refine anyT_val KD.pre 6 rfl (by kernel_rfl) (by kernel_rfl) (by kernel_rfl) (fun _ _ _ _ h => h) rfl ?_; apply Exists.intro; refine ⟨fun v1 hv1 => ?_, ?_⟩; (· (go_simp; rfl)); simp only [Act.put, List.setIfInBounds_toArray, List.set_cons_zero, List.set_cons_succ]
    refine anyT_val KD.pre 8 rfl (by kernel_rfl) (by kernel_rfl) (by kernel_rfl) (fun _ _ _ _ h => h) rfl ?_; apply Exists.intro; refine ⟨fun v1 hv1 => ?_, ?_⟩; (· (go_simp; rfl)); simp only [Act.put, List.setIfInBounds_toArray, List.set_cons_zero, List.set_cons_succ]
    refine anyT_val KD.pre 9 rfl (by kernel_rfl) (by kernel_rfl) (by kernel_rfl) (fun _ _ _ _ h => h) rfl ?_; apply Exists.intro; refine ⟨fun v1 hv1 => ?_, ?_⟩; (· (go_simp; rfl)); simp only [Act.put, List.setIfInBounds_toArray, List.set_cons_zero, List.set_cons_succ]
    refine anyT_val KD.pre 10 rfl (by kernel_rfl) (by kernel_rfl) (by kernel_rfl) (fun _ _ _ _ h => h) rfl ?_; apply Exists.intro; refine ⟨fun v1 hv1 => ?_, ?_⟩; (· (go_simp; rfl)); simp only [Act.put, List.setIfInBounds_toArray, List.set_cons_zero, List.set_cons_succ]
    refine anyT_val KD.pre 11 rfl (by kernel_rfl) (by kernel_rfl) (by kernel_rfl) (fun _ _ _ _ h => h) rfl ?_; apply Exists.intro; refine ⟨fun v1 hv1 => ?_, ?_⟩; (· (go_simp; rfl)); simp only [Act.put, List.setIfInBounds_toArray, List.set_cons_zero, List.set_cons_succ]
    refine anyT_val KD.pre 12 rfl (by kernel_rfl) (by kernel_rfl) (by kernel_rfl) (fun _ _ _ _ h => h) rfl ?_; apply Exists.intro; refine ⟨fun v1 hv1 => ?_, ?_⟩; (· (go_simp; rfl)); simp only [Act.put, List.setIfInBounds_toArray, List.set_cons_zero, List.set_cons_succ]
    refine anyT_val KD.pre 13 rfl (by kernel_rfl) (by kernel_rfl) (by kernel_rfl) (fun _ _ _ _ h => h) rfl ?_; apply Exists.intro; refine ⟨fun v1 hv1 => ?_, ?_⟩; (· (go_simp; rfl)); simp only [Act.put, List.setIfInBounds_toArray, List.set_cons_zero, List.set_cons_succ]
    refine anyT_val KD.pre 14 rfl (by kernel_rfl) (by kernel_rfl) (by kernel_rfl) (fun _ _ _ _ h => h) rfl ?_; apply Exists.intro; refine ⟨fun v1 hv1 => ?_, ?_⟩; (· (go_simp; rfl)); simp only [Act.put, List.setIfInBounds_toArray, List.set_cons_zero, List.set_cons_succ]
    clear ha
    refine anyT_one 7 rfl (by kernel_rfl) rfl ?_
    refine wp_enter 14 #[.pointer (some ⟨bt, 0, none⟩), .agg #[.int .u8 p, .int .u32 s, .int .u32 d, .int .u16 a, .int .u16 b], .int .i64 id, .int .i64 till] (by go_simp) ?_
    refine (pt_put base bt bd lim n p s d a b id till Wd hPd hn hlm HG.out (by omega)).mono ?_
    rintro e W1 ⟨x, rfl, hk1, hb1, hc2⟩
    refine ⟨hk1, ?_⟩
    simp only [Act.put, List.setIfInBounds_toArray, List.set_cons_zero, List.set_cons_succ]
    refine anyT_one 15 rfl (by kernel_rfl) rfl ?_
    refine wp_enter 28 #[.pointer (some ⟨bd, 0, none⟩), .agg #[.int .u8 p, .int .u32 s, .int .u32 d, .int .u16 a, .int .u16 b], .int .i64 id, .int .i64 till] (by go_simp) ?_
    refine hc2.mono ?_
    rintro e W2 ⟨rfl, hk2, hb2, hP2⟩
    refine ⟨hk2, ?_⟩
    simp only [Act.put, List.setIfInBounds_toArray, List.set_cons_zero, List.set_cons_succ]
    refine anyT_val KD.pre 16 rfl (by kernel_rfl) (by kernel_rfl) (by kernel_rfl) (fun _ _ _ _ h => h) rfl ?_; apply Exists.intro; refine ⟨fun v1 hv1 => ?_, ?_⟩; (· (go_simp; rfl)); simp only [Act.put, List.setIfInBounds_toArray, List.set_cons_zero, List.set_cons_succ]
    refine anyT_one 17 rfl (by kernel_rfl) rfl ?_
    unfold Oper.wp
    go_simp
    refine ⟨KD.refl _, ?_⟩
    refine anyT_done (by kernel_rfl) ?_
    have hfin : Below base w W2 := ((lwd.mono hbs).trans hb1).trans hb2
    go_wp2_with fail
    go_ret
    exact ⟨by simp, hP2, hfin⟩
  by_cases hk1 : kd = 1
  · subst hk1
    go_upto_region 5 with fail
    clear k0
    generalize w.alloc _ = w0 at *
    refine anyT_begin (R := KD) 14 rfl (by kernel_rfl) ?_
    have ld : Later w0 w0.drew := Later.drew w0
    have lwd := lb0.trans ld
    have cd := later_keep ld c0
    have hPd := hP0.later ld
    clear hP0 c0
    generalize w0.drew = Wd at *
    have hwsz := lwd.size
    have ha : ∀ v1, KD Wd v1 → ∀ j, v1.cell? ⟨w.heap.size, j, none⟩ = _ := fun v1 hv => block_cell (hv _ _ _ _ cd (by decide) (by decide) (by decide) (by decide))
    refine anyT_val KD.pre 0 rfl (by kernel_rfl) (by kernel_rfl) (by kernel_rfl) (fun _ _ _ _ h => h) rfl ?_; apply Exists.intro; refine ⟨fun v1 hv1 => ?_, ?_⟩; (· (go_simp; rfl)); simp only [Act.put, List.setIfInBounds_toArray, List.set_cons_zero, List.set_cons_succ]
    refine anyT_val KD.pre 1 rfl (by kernel_rfl) (by kernel_rfl) (by kernel_rfl) (fun _ _ _ _ h => h) rfl ?_; apply Exists.intro; refine ⟨fun v1 hv1 => ?_, ?_⟩; (· (go_simp; rfl)); simp only [Act.put, List.setIfInBounds_toArray, List.set_cons_zero, List.set_cons_succ]
    refine anyT_val KD.pre 2 rfl (by kernel_rfl) (by kernel_rfl) (by kernel_rfl) (fun _ _ _ _ h => h) rfl ?_; apply Exists.intro; refine ⟨fun v1 hv1 => ?_, ?_⟩; (· (go_simp; rfl)); simp only [Act.put, List.setIfInBounds_toArray, List.set_cons_zero, List.set_cons_succ]
    refine anyT_val KD.pre 3 rfl (by kernel_rfl) (by kernel_rfl) (by kernel_rfl) (fun _ _ _ _ h => h) rfl ?_; apply Exists.intro; refine ⟨fun v1 hv1 => ?_, ?_⟩; (· (go_simp; rfl)); simp only [Act.put, List.setIfInBounds_toArray, List.set_cons_zero, List.set_cons_succ]
    refine anyT_val KD.pre 4 rfl (by kernel_rfl) (by kernel_rfl) (by kernel_rfl) (fun _ _ _ _ h => h) rfl ?_; apply Exists.intro; refine ⟨fun v1 hv1 => ?_, ?_⟩; (· (go_simp; rfl)); simp only [Act.put, List.setIfInBounds_toArray, List.set_cons_zero, List.set_cons_succ]
    refine anyT_val KD.pre 6 rfl (by kernel_rfl) (by kernel_rfl) (by kernel_rfl) (fun _ _ _ _ h => h) rfl ?_; apply Exists.intro; refine ⟨fun v1 hv1 => ?_, ?_⟩; (· (go_simp; rfl)); simp only [Act.put, List.setIfInBounds_toArray, List.set_cons_zero, List.set_cons_succ]
    refine anyT_val KD.pre 7 rfl (by kernel_rfl) (by kernel_rfl) (by kernel_rfl) (fun _ _ _ _ h => h) rfl ?_; apply Exists.intro; refine ⟨fun v1 hv1 => ?_, ?_⟩; (· (go_simp; rfl)); simp only [Act.put, List.setIfInBounds_toArray, List.set_cons_zero, List.set_cons_succ]
    refine anyT_val KD.pre 8 rfl (by kernel_rfl) (by kernel_rfl) (by kernel_rfl) (fun _ _ _ _ h => h) rfl ?_; apply Exists.intro; refine ⟨fun v1 hv1 => ?_, ?_⟩; (· (go_simp; rfl)); simp only [Act.put, List.setIfInBounds_toArray, List.set_cons_zero, List.set_cons_succ]
    refine anyT_val KD.pre 9 rfl (by kernel_rfl) (by kernel_rfl) (by kernel_rfl) (fun _ _ _ _ h => h) rfl ?_; apply Exists.intro; refine ⟨fun v1 hv1 => ?_, ?_⟩; (· (go_simp; rfl)); simp only [Act.put, List.setIfInBounds_toArray, List.set_cons_zero, List.set_cons_succ]
    refine anyT_val KD.pre 10 rfl (by kernel_rfl) (by kernel_rfl) (by kernel_rfl) (fun _ _ _ _ h => h) rfl ?_; apply Exists.intro; refine ⟨fun v1 hv1 => ?_, ?_⟩; (· (go_simp; rfl)); simp only [Act.put, List.setIfInBounds_toArray, List.set_cons_zero, List.set_cons_succ]
    clear ha
    refine anyT_one 5 rfl (by kernel_rfl) rfl ?_
    refine wp_enter 16 #[.pointer (some ⟨bt, 0, none⟩), .agg #[.int .u8 p, .int .u32 s, .int .u32 d, .int .u16 a, .int .u16 b], .int .i64 till] (by go_simp) ?_
    refine (pt_move base bt bd lim n p s d a b till Wd hPd hn  HG.out (by omega)).mono ?_
    rintro e W1 ⟨x, rfl, hk1, hb1, hc2⟩
    refine ⟨hk1, ?_⟩
    simp only [Act.put, List.setIfInBounds_toArray, List.set_cons_zero, List.set_cons_succ]
    refine anyT_one 11 rfl (by kernel_rfl) rfl ?_
    refine wp_enter 29 #[.pointer (some ⟨bd, 0, none⟩), .agg #[.int .u8 p, .int .u32 s, .int .u32 d, .int .u16 a, .int .u16 b], .int .i64 till] (by go_simp) ?_
    refine hc2.mono ?_
    rintro e W2 ⟨rfl, hk2, hb2, hP2⟩
    refine ⟨hk2, ?_⟩
    simp only [Act.put, List.setIfInBounds_toArray, List.set_cons_zero, List.set_cons_succ]
    refine anyT_val KD.pre 12 rfl (by kernel_rfl) (by kernel_rfl) (by kernel_rfl) (fun _ _ _ _ h => h) rfl ?_; apply Exists.intro; refine ⟨fun v1 hv1 => ?_, ?_⟩; (· (go_simp; rfl)); simp only [Act.put, List.setIfInBounds_toArray, List.set_cons_zero, List.set_cons_succ]
    refine anyT_one 13 rfl (by kernel_rfl) rfl ?_
    unfold Oper.wp
    go_simp
    refine ⟨KD.refl _, ?_⟩
    refine anyT_done (by kernel_rfl) ?_
    have hfin : Below base w W2 := ((lwd.mono hbs).trans hb1).trans hb2
    go_wp2_with fail
    go_ret
    exact ⟨by simp, hP2, hfin⟩
  by_cases hk2 : kd = 2
  · subst hk2
    go_upto_region 7 with fail
    clear k0
    generalize w.alloc _ = w0 at *
    refine anyT_begin (R := KD) 10 rfl (by kernel_rfl) ?_
    have ld : Later w0 w0.drew := Later.drew w0
    have lwd := lb0.trans ld
    have cd := later_keep ld c0
    have hPd := hP0.later ld
    clear hP0 c0
    generalize w0.drew = Wd at *
    have hwsz := lwd.size
    have ha : ∀ v1, KD Wd v1 → ∀ j, v1.cell? ⟨w.heap.size, j, none⟩ = _ := fun v1 hv => block_cell (hv _ _ _ _ cd (by decide) (by decide) (by decide) (by decide))
    refine anyT_val KD.pre 0 rfl (by kernel_rfl) (by kernel_rfl) (by kernel_rfl) (fun _ _ _ _ h => h) rfl ?_; apply Exists.intro; refine ⟨fun v1 hv1 => ?_, ?_⟩; (· (go_simp; rfl)); simp only [Act.put, List.setIfInBounds_toArray, List.set_cons_zero, List.set_cons_succ]
    refine anyT_val KD.pre 1 rfl (by kernel_rfl) (by kernel_rfl) (by kernel_rfl) (fun _ _ _ _ h => h) rfl ?_; apply Exists.intro; refine ⟨fun v1 hv1 => ?_, ?_⟩; (· (go_simp; rfl)); simp only [Act.put, List.setIfInBounds_toArray, List.set_cons_zero, List.set_cons_succ]
    refine anyT_val KD.pre 2 rfl (by kernel_rfl) (by kernel_rfl) (by kernel_rfl) (fun _ _ _ _ h => h) rfl ?_; apply Exists.intro; refine ⟨fun v1 hv1 => ?_, ?_⟩; (· (go_simp; rfl)); simp only [Act.put, List.setIfInBounds_toArray, List.set_cons_zero, List.set_cons_succ]
    refine anyT_val KD.pre 4 rfl (by kernel_rfl) (by kernel_rfl) (by kernel_rfl) (fun _ _ _ _ h => h) rfl ?_; apply Exists.intro; refine ⟨fun v1 hv1 => ?_, ?_⟩; (· (go_simp; rfl)); simp only [Act.put, List.setIfInBounds_toArray, List.set_cons_zero, List.set_cons_succ]
    refine anyT_val KD.pre 5 rfl (by kernel_rfl) (by kernel_rfl) (by kernel_rfl) (fun _ _ _ _ h => h) rfl ?_; apply Exists.intro; refine ⟨fun v1 hv1 => ?_, ?_⟩; (· (go_simp; rfl)); simp only [Act.put, List.setIfInBounds_toArray, List.set_cons_zero, List.set_cons_succ]
    refine anyT_val KD.pre 6 rfl (by kernel_rfl) (by kernel_rfl) (by kernel_rfl) (fun _ _ _ _ h => h) rfl ?_; apply Exists.intro; refine ⟨fun v1 hv1 => ?_, ?_⟩; (· (go_simp; rfl)); simp only [Act.put, List.setIfInBounds_toArray, List.set_cons_zero, List.set_cons_succ]
    clear ha
    refine anyT_one 3 rfl (by kernel_rfl) rfl ?_
    refine wp_enter 17 #[.pointer (some ⟨bt, 0, none⟩), .agg #[.int .u8 p, .int .u32 s, .int .u32 d, .int .u16 a, .int .u16 b]] (by go_simp) ?_
    refine (pt_drop base bt bd lim n p s d a b  Wd hPd hn  HG.out (by omega)).mono ?_
    rintro e W1 ⟨x, rfl, hk1, hb1, hc2⟩
    refine ⟨hk1, ?_⟩
    simp only [Act.put, List.setIfInBounds_toArray, List.set_cons_zero, List.set_cons_succ]
    refine anyT_one 7 rfl (by kernel_rfl) rfl ?_
    refine wp_enter 30 #[.pointer (some ⟨bd, 0, none⟩), .agg #[.int .u8 p, .int .u32 s, .int .u32 d, .int .u16 a, .int .u16 b]] (by go_simp) ?_
    refine hc2.mono ?_
    rintro e W2 ⟨rfl, hk2, hb2, hP2⟩
    refine ⟨hk2, ?_⟩
    simp only [Act.put, List.setIfInBounds_toArray, List.set_cons_zero, List.set_cons_succ]
    refine anyT_val KD.pre 8 rfl (by kernel_rfl) (by kernel_rfl) (by kernel_rfl) (fun _ _ _ _ h => h) rfl ?_; apply Exists.intro; refine ⟨fun v1 hv1 => ?_, ?_⟩; (· (go_simp; rfl)); simp only [Act.put, List.setIfInBounds_toArray, List.set_cons_zero, List.set_cons_succ]
    refine anyT_one 9 rfl (by kernel_rfl) rfl ?_
    unfold Oper.wp
    go_simp
    refine ⟨KD.refl _, ?_⟩
    refine anyT_done (by kernel_rfl) ?_
    have hfin : Below base w W2 := ((lwd.mono hbs).trans hb1).trans hb2
    go_wp2_with fail
    go_ret
    exact ⟨by simp, hP2, hfin⟩
  have HP := hide (hP0.mono (Nat.le_succ n))
  have HB := hide (lb0.mono hbs)
  go_wp2_with fail
  go_ret
  exact ⟨by simp, HP.out, HB.out⟩
end Go.Proofs.Ytahphjindjlcpaa

/- How an argument that is a deed of a table reads. -/
namespace Go.Proofs.Ytahphjindjlcpaa
open Go.ChangeShapes Go.WideShapes Go.ChangeAt Go.RowKit Go.Joins
set_option maxRecDepth 100000
set_option linter.unusedVariables false
set_option linter.unusedSimpArgs false

theorem arr8 {α : Type} {l : Array α} (h : l.size = 8) : ∃ a b c d e f g i, l = #[a, b, c, d, e, f, g, i] := by
  obtain ⟨l⟩ := l
  match l, h with
  | [a, b, c, d, e, f, g, i], _ => exact ⟨a, b, c, d, e, f, g, i, rfl⟩
theorem lst4 {α : Type} {l : List α} (h : l.length = 4) : ∃ a b c d, l = [a, b, c, d] := by
  match l, h with
  | [a, b, c, d], _ => exact ⟨a, b, c, d, rfl⟩
theorem lst5' {α : Type} {l : List α} (h : l.length = 5) : ∃ a b c d e, l = [a, b, c, d, e] := by
  match l, h with
  | [a, b, c, d, e], _ => exact ⟨a, b, c, d, e, rfl⟩

theorem open_deed {H : Type} {enc : TypeId × Value → H} {W : World} {r : Reach} {b0 : Nat} {v : Value} {d : DataW H} {p : List MemPlace} (hv : Value.okWide Try.prog W r b0 28 v) (h : DataW.Trod enc Try.prog W 0 (fun _ => true) true 28 v d p) :
    ∃ k x y z a b i t : Int, v = .agg #[.int .i64 k, .int .u8 x, .int .u32 y, .int .u32 z, .int .u16 a, .int .u16 b, .int .i64 i, .int .i64 t] ∧ (0 ≤ x ∧ x ≤ 255) ∧ (0 ≤ y ∧ y ≤ 4294967295) ∧ (0 ≤ z ∧ z ≤ 4294967295) ∧ (0 ≤ a ∧ a ≤ 65535) ∧ (0 ≤ b ∧ b ≤ 65535) ∧ (-9223372036854775808 ≤ k ∧ k ≤ 9223372036854775807) ∧ (-9223372036854775808 ≤ i ∧ i ≤ 9223372036854775807) ∧ (-9223372036854775808 ≤ t ∧ t ≤ 9223372036854775807) := by
  obtain ⟨cs, rfl, hsz⟩ := okWide_struct Try.underlying28 hv
  obtain ⟨c0, c1, c2, c3, c4, c5, c6, c7, rfl⟩ := arr8 (hsz.trans (by kernel_rfl))
  obtain ⟨fuel, hf⟩ := h
  obtain ⟨xs, n, hn, hx, _, hlen, hfs⟩ := DataW.trod_struct Try.underlying28 hf
  obtain ⟨y0, y1, y2, y3, rfl⟩ := lst4 hlen
  have k0 : Try.prog.cellsOf 3 = 1 := by kernel_rfl
  have kt : Try.prog.cellsOf 26 = 5 := by kernel_rfl
  have k1 : Try.prog.cellsOf 5 = 1 := by kernel_rfl
  have k3 : Try.prog.cellsOf 23 = 1 := by kernel_rfl
  have k5 : Try.prog.cellsOf 24 = 1 := by kernel_rfl
  have f0 := hfs 0 _ rfl
  have f1 := hfs 1 _ rfl
  have f2 := hfs 2 _ rfl
  have f3 := hfs 3 _ rfl
  simp [Value.cells, k0, kt] at f0 f1 f2 f3
  obtain ⟨k, e0, _, w0⟩ := DataW.trod_int Try.underlying3 f0
  obtain ⟨i, e2, _, w2⟩ := DataW.trod_int Try.underlying3 f2
  obtain ⟨t, e3, _, w3⟩ := DataW.trod_int Try.underlying3 f3
  obtain ⟨xs1, n1, hn1, hx1, _, hlen1, hfs1⟩ := DataW.trod_struct Try.underlying26 f1
  obtain ⟨z0, z1, z2, z3, z4, rfl⟩ := lst5' hlen1
  have g0 := hfs1 0 _ rfl
  have g1 := hfs1 1 _ rfl
  have g2 := hfs1 2 _ rfl
  have g3 := hfs1 3 _ rfl
  have g4 := hfs1 4 _ rfl
  simp [Value.cells, k1, k3, k5] at g0 g1 g2 g3 g4
  obtain ⟨x, e4, _, w4⟩ := DataW.trod_int Try.underlying5 g0
  obtain ⟨y, e5, _, w5⟩ := DataW.trod_int Try.underlying23 g1
  obtain ⟨z, e6, _, w6⟩ := DataW.trod_int Try.underlying23 g2
  obtain ⟨a, e7, _, w7⟩ := DataW.trod_int Try.underlying24 g3
  obtain ⟨b, e8, _, w8⟩ := DataW.trod_int Try.underlying24 g4
  simp at e0 e2 e3 e4 e5 e6 e7 e8
  subst e0 e2 e3 e4 e5 e6 e7 e8
  simp [Lit.wf, IntKind.min, IntKind.max, IntKind.signed, IntKind.bits] at w0 w2 w3 w4 w5 w6 w7 w8
  exact ⟨k, x, y, z, a, b, i, t, rfl, w4, w5, w6, w7, w8, w0, w2, w3⟩
end Go.Proofs.Ytahphjindjlcpaa

/- How arguments that are deeds of a table read. -/
namespace Go.Proofs.Ytahphjindjlcpaa
open Go.ChangeShapes Go.WideShapes Go.ChangeAt Go.RowKit Go.Joins
set_option maxRecDepth 100000
set_option linter.unusedVariables false
set_option linter.unusedSimpArgs false

theorem addr_add6 (b off k : Nat) : (⟨b, off, none⟩ : Addr).add k = ⟨b, off + k, none⟩ := by unfold Addr.add; split <;> simp_all

theorem lst8 {α : Type} {l : List α} (h : l.length = 8) : ∃ a b c d e f g i, l = [a, b, c, d, e, f, g, i] := by
  match l, h with
  | [a, b, c, d, e, f, g, i], _ => exact ⟨a, b, c, d, e, f, g, i, rfl⟩

/-- A deed: its kind, a key, a number, a time. -/
structure De where
  k : Int
  p : Int
  s : Int
  d : Int
  a : Int
  b : Int
  id : Int
  till : Int
def dec (d : De) : List Value := [.int .i64 d.k, .int .u8 d.p, .int .u32 d.s, .int .u32 d.d, .int .u16 d.a, .int .u16 d.b, .int .i64 d.id, .int .i64 d.till]
def wfE (d : De) : Prop := (0 ≤ d.p ∧ d.p ≤ 255) ∧ (0 ≤ d.s ∧ d.s ≤ 4294967295) ∧ (0 ≤ d.d ∧ d.d ≤ 4294967295) ∧ (0 ≤ d.a ∧ d.a ≤ 65535) ∧ (0 ≤ d.b ∧ d.b ≤ 65535) ∧ (-9223372036854775808 ≤ d.k ∧ d.k ≤ 9223372036854775807) ∧ (-9223372036854775808 ≤ d.id ∧ d.id ≤ 9223372036854775807) ∧ (-9223372036854775808 ≤ d.till ∧ d.till ≤ 9223372036854775807)

theorem trod_deed6 {H : Type} {enc : TypeId × Value → H} {W : World} {n : Nat} {cs : List Value} {y : DataW H × List MemPlace} (h : DataW.trod enc Try.prog W 0 (fun _ => true) true n 28 cs = some y) (hl : cs.length = 8) : ∃ d : De, cs = dec d ∧ wfE d := by
  obtain ⟨c0, c1, c2, c3, c4, c5, c6, c7, rfl⟩ := lst8 hl
  obtain ⟨xs, n, hn, hx, _, hlen, hfs⟩ := DataW.trod_struct Try.underlying28 h
  obtain ⟨y0, y1, y2, y3, rfl⟩ := lst4 hlen
  have k0 : Try.prog.cellsOf 3 = 1 := by kernel_rfl
  have kt : Try.prog.cellsOf 26 = 5 := by kernel_rfl
  have k1 : Try.prog.cellsOf 5 = 1 := by kernel_rfl
  have k3 : Try.prog.cellsOf 23 = 1 := by kernel_rfl
  have k5 : Try.prog.cellsOf 24 = 1 := by kernel_rfl
  have f0 := hfs 0 _ rfl
  have f1 := hfs 1 _ rfl
  have f2 := hfs 2 _ rfl
  have f3 := hfs 3 _ rfl
  simp [Value.cells, k0, kt] at f0 f1 f2 f3
  obtain ⟨k, e0, _, w0⟩ := DataW.trod_int Try.underlying3 f0
  obtain ⟨i, e2, _, w2⟩ := DataW.trod_int Try.underlying3 f2
  obtain ⟨t, e3, _, w3⟩ := DataW.trod_int Try.underlying3 f3
  obtain ⟨xs1, n1, hn1, hx1, _, hlen1, hfs1⟩ := DataW.trod_struct Try.underlying26 f1
  obtain ⟨z0, z1, z2, z3, z4, rfl⟩ := lst5' hlen1
  have g0 := hfs1 0 _ rfl
  have g1 := hfs1 1 _ rfl
  have g2 := hfs1 2 _ rfl
  have g3 := hfs1 3 _ rfl
  have g4 := hfs1 4 _ rfl
  simp [Value.cells, k1, k3, k5] at g0 g1 g2 g3 g4
  obtain ⟨x, e4, _, w4⟩ := DataW.trod_int Try.underlying5 g0
  obtain ⟨y, e5, _, w5⟩ := DataW.trod_int Try.underlying23 g1
  obtain ⟨z, e6, _, w6⟩ := DataW.trod_int Try.underlying23 g2
  obtain ⟨a, e7, _, w7⟩ := DataW.trod_int Try.underlying24 g3
  obtain ⟨b, e8, _, w8⟩ := DataW.trod_int Try.underlying24 g4
  simp at e0 e2 e3 e4 e5 e6 e7 e8
  subst e0 e2 e3 e4 e5 e6 e7 e8
  simp [Lit.wf, IntKind.min, IntKind.max, IntKind.signed, IntKind.bits] at w0 w2 w3 w4 w5 w6 w7 w8
  exact ⟨⟨k, x, y, z, a, b, i, t⟩, rfl, w4, w5, w6, w7, w8, w0, w2, w3⟩

/-- The slice value reads as these deeds, all of it below block n₀. -/
def RdE (n₀ : Nat) (W : World) (sv : Value) (l : List De) : Prop :=
  (∃ a cap, sv = .slice a 0 cap ∧ l = [] ∧ cap ≤ 9223372036854775807) ∨
  ∃ b off cap, sv = .slice (some ⟨b, off, none⟩) l.length cap ∧ l ≠ [] ∧ l.length ≤ cap ∧ cap ≤ 9223372036854775807 ∧ b < n₀ ∧ ∀ j (hj : j < l.length), ∀ i, i < 8 → W.cell? ⟨b, off + j * 8 + i, none⟩ = (dec l[j])[i]?
theorem RdE.below {n₀ : Nat} {A B : World} (h : Below n₀ A B) {sv : Value} {l : List De} : RdE n₀ A sv l → RdE n₀ B sv l
  | .inl e => .inl e
  | .inr ⟨b, off, cap, e, hne, hl, hm, hb, hc⟩ => .inr ⟨b, off, cap, e, hne, hl, hm, hb, fun j hj i hi => (h.cell (p := ⟨b, off + j * 8 + i, none⟩) hb).trans (hc j hj i hi)⟩
theorem RdE.slice {n₀ : Nat} {A : World} {sv : Value} {l : List De} : RdE n₀ A sv l → ∃ a cap, sv = .slice a l.length cap ∧ l.length ≤ cap ∧ cap ≤ 9223372036854775807
  | .inl ⟨a, cap, e, hz, hm⟩ => ⟨a, cap, by rw [e, hz]; rfl, by rw [hz]; exact Nat.zero_le _, hm⟩
  | .inr ⟨b, off, cap, e, _, hl, hm, _⟩ => ⟨_, cap, e, hl, hm⟩
theorem RdE.cells {n₀ : Nat} {W : World} {sv : Value} {l : List De} (h : RdE n₀ W sv l) (hne : 0 < l.length) : ∃ b off cap, sv = .slice (some ⟨b, off, none⟩) l.length cap ∧ l.length ≤ cap ∧ cap ≤ 9223372036854775807 ∧ b < n₀ ∧ ∀ j (hj : j < l.length), ∀ i, i < 8 → W.cell? ⟨b, off + j * 8 + i, none⟩ = (dec l[j])[i]? := by
  rcases h with ⟨a, cap, _, rfl, _⟩ | ⟨b, off, cap, e, _, hl, hm, hb, hc⟩
  · simp at hne
  · exact ⟨b, off, cap, e, hl, hm, hb, hc⟩

theorem open_deeds6 {H : Type} {enc : TypeId × Value → H} {W : World} {n : Nat} {c : Value} {y : DataW H × List MemPlace} (h : DataW.trod enc Try.prog W 0 (fun _ => true) true n 22 [c] = some y) : ∃ l, RdE W.heap.size W c l ∧ ∀ d ∈ l, wfE d := by
  rcases DataW.trod_slice Try.underlying22 h with ⟨hcs, _⟩ | ⟨a, len, cap, elems, rest, n, _, hcs, rfl, hb, hl, hm, hlen, hel, hsp, hns⟩
  · simp at hcs
    subst hcs
    exact ⟨[], .inl ⟨_, _, rfl, rfl, by omega⟩, fun d hd => by cases hd⟩
  · simp at hcs
    subst hcs
    have hc1 : Try.prog.cellsOf 28 = 8 := by kernel_rfl
    by_cases h0 : len = 0
    · subst h0
      exact ⟨[], .inl ⟨_, _, rfl, rfl, by simpa [maxLen] using hm⟩, fun d hd => by cases hd⟩
    have each : ∀ i, ∃ d : De, i < len → wfE d ∧ ∀ j, j < 8 → W.cell? ((a.add (i * 8)).add j) = (dec d)[j]? := fun i => by
      by_cases hi : i < len
      · have h1 := hel i hi
        rw [hc1] at h1
        have hy : elems[i]? = some (elems[i]'(by omega)) := List.getElem?_eq_getElem (by omega)
        rw [hy, Option.bind_eq_some_iff] at h1
        obtain ⟨cs', hcs, hy'⟩ := h1
        obtain ⟨q1, q2, q3⟩ := World.cells?_some hcs
        obtain ⟨d, e, hw⟩ := trod_deed6 hy' q2
        exact ⟨d, fun _ => ⟨hw, fun j hj => by rw [q3 j hj, e]⟩⟩
      · exact ⟨⟨0, 0, 0, 0, 0, 0, 0, 0⟩, fun h => absurd h hi⟩
    obtain ⟨O, hO⟩ := Classical.axiomOfChoice each
    obtain ⟨b, off, spot⟩ := a
    have hc : W.cell? _ = some _ := ((hO 0 (by omega)).2 0 (by omega))
    have hspot : spot = none := by simpa [Addr.add] using World.cell?_spot hc
    subst hspot
    refine ⟨(List.range len).map O, .inr ⟨b, off, cap, by simp, by intro e; have := congrArg List.length e; simp at this; omega, by simp; omega, by simpa [maxLen] using hm, ?_, fun j hj i hi => ?_⟩, fun d hd => ?_⟩
    · have := World.block_lt_of_cell? W _ hc
      simpa [Addr.add] using this
    · have hj' : j < len := by simpa using hj
      have := (hO j hj').2 i hi
      rw [addr_add6, addr_add6] at this
      rw [this]
      simp
    · obtain ⟨i, hi, rfl⟩ := List.mem_map.1 hd
      exact (hO i (by simpa using hi)).1
end Go.Proofs.Ytahphjindjlcpaa

/- Deeds on both tables: the law's play. -/
namespace Go.Proofs.Ytahphjindjlcpaa
open Go.RowKit Go.Shelf
set_option maxRecDepth 100000
set_option linter.unusedVariables false
set_option linter.unusedSimpArgs false

set_option maxHeartbeats 4000000 in
theorem rnew6_any (n : Int) (w : World) (h1 : 1 ≤ n) (h2 : n ≤ 4096) : Calls Try.prog 20 #[.int .i64 n] w fun e w' => e = .returned (.pointer (some ⟨w.heap.size, 0, none⟩)) ∧ Below w.heap.size w w' ∧ DT w.heap.size w' w.heap.size (.slice none 0 0) n 0 [] := by
  have la : Later w (w.alloc (.cells #[.slice none 0 0, .int .i64 n, .int .i64 0] 69)) := (Below.refl _ _).alloc (Nat.le_refl _) _
  have hn := heap_alloc_new w (.cells #[.slice none 0 0, .int .i64 n, .int .i64 0] 69)
  go_enter Try.func20, Try.ntmps20
  go_wp2_with fail
  go_ret
  exact ⟨rfl, la, Nat.le_refl _, hn, World.ownsRow_nil _ _ _ _⟩

set_option maxHeartbeats 8000000 in
theorem play6_any (n₀ : Nat) (m : Int) (sv : Value) (ds : List De) (w : World) (hm : 0 ≤ m ∧ m ≤ 255) (hI : RdE n₀ w sv ds) (hd : ∀ d ∈ ds, wfE d) (hn : n₀ ≤ w.heap.size) :
    Calls Try.prog 7 #[.int .u8 m, sv] w fun e w' => Later w w' ∧ ∃ a b, e = .returned (.tuple #[.pointer (some ⟨a, 0, none⟩), .pointer (some ⟨b, 0, none⟩), .bool true]) ∧ PT w.heap.size w' a b (m % 8 + 1) 100 := by
  obtain ⟨aa, ca, rfl, ha1, ha2⟩ := hI.slice
  have HI := hide hI
  clear hI
  have hr1 : 1 ≤ m % 8 + 1 := by omega
  have hr2 : m % 8 + 1 ≤ 8 := by omega
  have hmt : Int.tmod m 8 = m % 8 := Int.tmod_eq_emod_of_nonneg hm.1
  go_enter Try.func7, Try.ntmps7
  go_wp2_with fail
  refine (new_yes (m % 8 + 1) w hr1 (by omega)).mono ?_
  rintro e w1 ⟨rfl, l1, hA⟩
  generalize hwa : w.heap.size = a at *
  go_wp2_with fail
  refine (rnew6_any (m % 8 + 1) w1 hr1 (by omega)).mono ?_
  rintro e w2 ⟨rfl, l2, hB⟩
  have hA2 := TB.later hA l2
  have hs1 := l1.size
  have hPQ0 : PT a w2 a w1.heap.size (m % 8 + 1) 0 := ⟨_, _, [], 0, hA2, ⟨by omega, hB.2.1, World.ownsRow_nil _ _ _ _⟩, Rel.empty, fun _ => Nat.le_refl _, Nat.le_refl _, by omega, by omega, ⟨by simp; omega, fun r hr => by cases hr⟩, Wft.nil _, fun r hr => by cases hr⟩
  generalize w1.heap.size = b at *
  have L2 : Below a w w2 := l1.trans (l2.mono (by omega))
  clear hB hA hA2
  generalize hlm : m % 8 + 1 = lim at *
  have HLM := hide hlm
  clear hlm
  clear hmt hm
  go_wp2_with fail
  go_loopw [10] (fun i wr => ∃ k : Nat, k ≤ ds.length ∧ k ≤ 100 ∧ i = .int .i64 (k : Int) ∧ PT a wr a b lim k ∧ Below a w2 wr) (fun i _ => ds.length - (intOf i).toNat)
  case atStart => exact ⟨0, by omega, by omega, rfl, hPQ0, Below.refl _ _⟩
  case round =>
    obtain ⟨k, hk, hk6, rfl, hPQ, hbw⟩ := hrel
    have hbz : Below a w wr := L2.trans hbw
    by_cases hlt : k < ds.length
    · have hlt' : (k : Int) < ds.length := by omega
      by_cases h60 : k < 100
      · have h60' : (k : Int) < 100 := by omega
        obtain ⟨bb, off, cp, e, _, _, hbb, hcs⟩ := (HI.out.below (hbz.mono (by omega))).cells (by omega)
        simp at e
        obtain ⟨rfl, rfl⟩ := e
        have d0 := hcs k hlt 0 (by omega)
        have d1 := hcs k hlt 1 (by omega)
        have d2 := hcs k hlt 2 (by omega)
        have d3 := hcs k hlt 3 (by omega)
        have d4 := hcs k hlt 4 (by omega)
        have d5 := hcs k hlt 5 (by omega)
        have d6 := hcs k hlt 6 (by omega)
        have d7 := hcs k hlt 7 (by omega)
        have hwf := hd ds[k] (List.getElem_mem hlt)
        clear hcs
        generalize ds[k] = r at *
        simp only [dec, List.getElem?_cons_zero, List.getElem?_cons_succ, Nat.add_zero] at d0 d1 d2 d3 d4 d5 d6 d7
        have HDO := hide (do6_any a a b lim k r.k r.p r.s r.d r.a r.b r.id r.till wr hPQ (by omega) (by omega) ⟨hwf.2.1, hwf.2.2.1, hwf.2.2.2.1, hwf.2.2.2.2.1⟩ (by have := hbz.size; omega))
        go_wp2_with fail
        refine HDO.out.mono ?_
        rintro e W3 ⟨rfl, hP3, hb3⟩
        clear d0 d1 d2 d3 d4 d5 d6 d7
        go_wp2_with fail
        go_roundw
        case rel => exact ⟨k + 1, by omega, by omega, by go_num, hP3, hbw.trans hb3⟩
        case measure => simp [intOf]; omega
      · obtain rfl : k = 100 := by omega
        go_wp2_with fail
        refine bodyPost_ret (v := .tuple #[.pointer (some ⟨a, 0, none⟩), .pointer (some ⟨b, 0, none⟩), .bool true]) (by simp [results, Try.results7, go_sem]) rfl ⟨by unfold Later; rw [hwa]; exact hbz, a, b, rfl, by rw [hwa, HLM.out]; exact hPQ⟩
    · obtain rfl : k = ds.length := by omega
      go_wp2_with fail
      refine bodyPost_ret (v := .tuple #[.pointer (some ⟨a, 0, none⟩), .pointer (some ⟨b, 0, none⟩), .bool true]) (by simp [results, Try.results7, go_sem]) rfl ⟨by unfold Later; rw [hwa]; exact hbz, a, b, rfl, ?_⟩
      rw [hwa, HLM.out]
      exact hPQ.mono hk6
end Go.Proofs.Ytahphjindjlcpaa

/- The walk of TableKeys. -/
namespace Go.Proofs.Ytahphjindjlcpaa
open Go.RowKit Go.Shelf
set_option maxRecDepth 100000
set_option linter.unusedVariables false
set_option linter.unusedSimpArgs false

theorem gtv_kyp {p s d a a' b : Int} {ls : Nat → List Rw} (h : kyp p a' = kyp p a) : gtv p s d a' b ls = gtv p s d a b ls := by
  unfold gtv kx bki
  rw [h]
/-- What Get answers: an identity, a time, whether it is there. -/
theorem gtv_form (p s d a b : Int) (ls : Nat → List Rw) : ∃ x y z, gtv p s d a b ls = .tuple #[.int .i64 x, .int .i64 y, .bool z] := by
  unfold gtv
  split
  · exact ⟨_, _, _, rfl⟩
  · rename_i k hk
    obtain ⟨hkl, _⟩ := kix_at hk
    rw [List.getElem?_eq_getElem hkl]
    exact ⟨_, _, _, rfl⟩

end Go.Proofs.Ytahphjindjlcpaa

/- Sorting up to twelve rows. -/
namespace Go.Proofs.Ytahphjindjlcpaa
open Go.RowKit Go.Shelf
set_option maxRecDepth 100000
set_option linter.unusedVariables false
set_option linter.unusedSimpArgs false

/-- Does a row stand ahead of another? -/
def ltR (x y : Rw) : Bool := decide (ordv x y < 0)
/-- A row put into rows that are in order, from behind. -/
def insF (x : Rw) (P : List Rw) : List Rw := (P.reverse.dropWhile (ltR x)).reverse ++ x :: (P.reverse.takeWhile (ltR x)).reverse
theorem insF_eq {x : Rw} {A B : List Rw} (hB : ∀ e ∈ B, ltR x e = true) (hA : ∀ e, A.getLast? = some e → ltR x e = false) : insF x (A ++ B) = A ++ x :: B := by
  have hB' : ∀ e ∈ B.reverse, ltR x e = true := fun e he => hB e (List.mem_reverse.1 he)
  have h1 : (B.reverse ++ A.reverse).takeWhile (ltR x) = B.reverse ++ A.reverse.takeWhile (ltR x) := List.takeWhile_append_of_pos hB'
  have h2 : (B.reverse ++ A.reverse).dropWhile (ltR x) = A.reverse.dropWhile (ltR x) := List.dropWhile_append_of_pos hB'
  have h3 : A.reverse.takeWhile (ltR x) = [] ∧ A.reverse.dropWhile (ltR x) = A.reverse := by
    cases hr : A.reverse with
    | nil => simp
    | cons e t =>
      have := hA e (by rw [List.getLast?_eq_head?_reverse, hr]; rfl)
      simp [List.takeWhile_cons, List.dropWhile_cons, this]
  unfold insF
  rw [List.reverse_append, h1, h2, h3.1, h3.2]
  simp
theorem insF_length (x : Rw) (P : List Rw) : (insF x P).length = P.length + 1 := by
  have := congrArg List.length (List.takeWhile_append_dropWhile (p := ltR x) (l := P.reverse))
  rw [List.length_append, List.length_reverse] at this
  unfold insF
  rw [List.length_append, List.length_cons, List.length_reverse, List.length_reverse]
  omega
def isort (l : List Rw) : List Rw := l.foldl (fun P x => insF x P) []
theorem isort_snoc (l : List Rw) (x : Rw) : isort (l ++ [x]) = insF x (isort l) := by unfold isort; simp
theorem isort_length (l : List Rw) : (isort l).length = l.length := by
  have : ∀ (m : List Rw) (P : List Rw), (m.foldl (fun P x => insF x P) P).length = P.length + m.length := by
    intro m
    induction m with
    | nil => intro P; simp
    | cons x m ih => intro P; rw [List.foldl_cons, ih, insF_length]; simp; omega
  unfold isort
  rw [this]
  simp

set_option maxHeartbeats 8000000 in
theorem insert_any (g cap : Nat) (l : List Rw) (post : List Value) (w : World) (hl1 : 1 ≤ l.length) (hl : l.length ≤ 12) (hcap : l.length ≤ cap ∧ cap ≤ 9223372036854775807)
    (hh : w.heap[g]? = some (.cells (rws l ++ post).toArray 65 (0, 0))) :
    Calls Try.prog 57 #[.slice (some ⟨g, 0, none⟩) l.length cap, .int .i64 0, .int .i64 (l.length : Int), .func (.func 41) #[] #[]] w fun e w' => (∃ u, e = .returned u) ∧ w'.heap[g]? = some (.cells (rws (isort l) ++ post).toArray 65 (0, 0)) ∧ But (fun b => b = g) w w' := by
  go_enter Try.func57, Try.ntmps57
  go_wp2_with fail
  go_loopw [8] (fun i wr => ∃ k : Nat, 1 ≤ k ∧ k ≤ l.length ∧ i = .int .i64 (k : Int) ∧ wr.heap[g]? = some (.cells (rws (isort (l.take k) ++ l.drop k) ++ post).toArray 65 (0, 0)) ∧ But (fun b => b = g) w wr) (fun i _ => l.length - (intOf i).toNat)
  case atStart => exact ⟨1, by omega, by omega, rfl, by
    have : isort (l.take 1) ++ l.drop 1 = l := by
      cases l with
      | nil => simp at hl1
      | cons x l => simp [isort, insF]
    rw [this]
    exact hh, But.refl _ _⟩
  case round =>
    obtain ⟨k, hk1, hk, rfl, hcr, hbt⟩ := hrel
    rename World => w1
    by_cases hlt : k < l.length
    · have hlt' : (k : Int) < l.length := by omega
      have hP : (isort (l.take k)).length = k := by rw [isort_length, List.length_take]; omega
      have htk : isort (l.take (k + 1)) = insF l[k] (isort (l.take k)) := by rw [← List.take_append_getElem hlt, isort_snoc]
      have hdk : l.drop k = l[k] :: l.drop (k + 1) := List.drop_eq_getElem_cons hlt
      rw [hdk] at hcr
      have HTK := hide htk
      clear htk hdk
      generalize l[k] = x at *
      generalize isort (l.take k) = P at *
      generalize hsf : l.drop (k + 1) = suf at *
      have hsl : suf.length = l.length - (k + 1) := by rw [← hsf, List.length_drop]
      have HSF := hide hsf
      clear hsf
      go_wp2_with fail
      go_loopw [9] (fun j wr => ∃ A B, P = A ++ B ∧ j = .int .i64 (A.length : Int) ∧ (∀ e ∈ B, ltR x e = true) ∧ wr.heap[g]? = some (.cells (rws A ++ (rwc x ++ (rws (B ++ suf) ++ post))).toArray 65 (0, 0)) ∧ But (fun b => b = g) w wr) (fun j _ => (intOf j).toNat)
      case atStart => exact ⟨P, [], by simp, by rw [hP], by simp, by rw [hcr, rws_append, rws_cons]; simp, hbt⟩
      case round =>
        obtain ⟨A, B, hAB, rfl, hB, hci, hbi⟩ := hrel
        rename World => w2
        rcases List.eq_nil_or_concat A with rfl | ⟨A', y, rfl⟩
        · simp only [List.length_nil]
          go_upto_region 4 with fail
          go_quiet (fail)
          rw [List.nil_append] at hAB
          have ld : Later w2 (w2.drewN nq) := below_draw (Below.refl _ _) nq
          have hcd := later_keep ld hci
          have hbd := hbi.trans (But.of ld)
          have HREL : Hid (∃ k' : Nat, 1 ≤ k' ∧ k' ≤ l.length ∧ (Value.int .i64 ((k : Int) + 1)) = .int .i64 (k' : Int) ∧ (w2.drewN nq).heap[g]? = some (.cells (rws (isort (l.take k') ++ l.drop k') ++ post).toArray 65 (0, 0)) ∧ But (fun b => b = g) w (w2.drewN nq)) :=
            ⟨k + 1, by omega, by omega, by simp, by
              have hin := insF_eq (A := []) hB (fun e he => by cases he)
              rw [List.nil_append] at hin
              rw [HTK.out, HSF.out, hAB, hin, hcd]
              simp [rws], hbd⟩
          go_wp2_with fail
          go_roundw
          case rel => exact HREL.out
          case measure => simp [intOf]; omega
        · have hrl : (rws A').length = A'.length * 8 := rws_length _
          have hci' : w2.heap[g]? = some (.cells (rws A' ++ (rwc y ++ (rwc x ++ (rws (B ++ suf) ++ post)))).toArray 65 (0, 0)) := by rw [hci]; simp [rws]
          have hlp : (A' ++ [y]).length = A'.length + 1 := by simp
          have hkl : k = A'.length + 1 + B.length := by rw [← hP, hAB]; simp; omega
          clear hci hcr
          try simp only [List.concat_eq_append] at *
          generalize hpp : (A' ++ [y]).length = p at *
          generalize hqq : A'.length = q at *
          have HPP := hide hpp
          have HQQ := hide hqq
          have HAB := hide hAB
          clear hpp hqq hAB
          have e9 : (p : Int) - 1 = (q : Int) := by omega
          have g0 : (0 : Int) < (p : Int) := by omega
          have g00 : 0 < p := by omega
          have q1 : (q : Int) < l.length := by omega
          have p1 : (p : Int) < l.length := by omega
          have HLP := hide hlp
          have HWR : Hid (IntKind.i64.wrap (q : Int) = (q : Int)) := by
            have : (q : Int) < 12 := by omega
            show _ = _
            simp [IntKind.wrap, IntKind.bits, IntKind.signed]
            omega
          clear hlp hkl
          go_upto_region 4 with fail
          refine anyT_begin (R := Later) 17 rfl (by kernel_rfl) ?_
          have ld : Later w2 w2.drew := Later.drew w2
          have hcd := later_keep ld hci'
          have hbd := hbi.trans (But.of ld)
          clear hci' hbi ld
          generalize w2.drew = Wd at *
          have HY : Hid (∀ v1, Later Wd v1 → ∀ i, i < 8 → v1.cell? ⟨g, q * 8 + i, none⟩ = (rwc y)[i]?) := fun v1 h i hi => by
            rw [block_cell (later_keep h hcd), List.getElem?_toArray, List.getElem?_append_right (by omega), hrl, Nat.add_sub_cancel_left, List.getElem?_append_left (by rw [rwc_length]; exact hi)]
          have HX : Hid (∀ v1, Later Wd v1 → ∀ i, i < 8 → v1.cell? ⟨g, p * 8 + i, none⟩ = (rwc x)[i]?) := fun v1 h i hi => by
            have hlp := HLP.out; rw [block_cell (later_keep h hcd), List.getElem?_toArray, List.getElem?_append_right (by omega), hrl, List.getElem?_append_right (by rw [rwc_length]; omega), rwc_length, show p * 8 + i - q * 8 - 8 = i from by omega, List.getElem?_append_left (by rw [rwc_length]; exact hi)]
          have y0 : ∀ v1, Later Wd v1 → v1.cell? ⟨g, q * 8, none⟩ = some (.int .u8 y.p) := fun v1 h => (HY.out v1 h 0 (by omega))
          have y1 : ∀ v1, Later Wd v1 → v1.cell? ⟨g, q * 8 + 1, none⟩ = some (.int .u32 y.s) := fun v1 h => (HY.out v1 h 1 (by omega))
          have y2 : ∀ v1, Later Wd v1 → v1.cell? ⟨g, q * 8 + 2, none⟩ = some (.int .u32 y.d) := fun v1 h => (HY.out v1 h 2 (by omega))
          have y3 : ∀ v1, Later Wd v1 → v1.cell? ⟨g, q * 8 + 3, none⟩ = some (.int .u16 y.a) := fun v1 h => (HY.out v1 h 3 (by omega))
          have y4 : ∀ v1, Later Wd v1 → v1.cell? ⟨g, q * 8 + 4, none⟩ = some (.int .u16 y.b) := fun v1 h => (HY.out v1 h 4 (by omega))
          have y5 : ∀ v1, Later Wd v1 → v1.cell? ⟨g, q * 8 + 5, none⟩ = some (.int .i64 y.id) := fun v1 h => (HY.out v1 h 5 (by omega))
          have y6 : ∀ v1, Later Wd v1 → v1.cell? ⟨g, q * 8 + 6, none⟩ = some (.int .i64 y.till) := fun v1 h => (HY.out v1 h 6 (by omega))
          have y7 : ∀ v1, Later Wd v1 → v1.cell? ⟨g, q * 8 + 7, none⟩ = some (.int .i64 y.turn) := fun v1 h => (HY.out v1 h 7 (by omega))
          have x0 : ∀ v1, Later Wd v1 → v1.cell? ⟨g, p * 8, none⟩ = some (.int .u8 x.p) := fun v1 h => (HX.out v1 h 0 (by omega))
          have x1 : ∀ v1, Later Wd v1 → v1.cell? ⟨g, p * 8 + 1, none⟩ = some (.int .u32 x.s) := fun v1 h => (HX.out v1 h 1 (by omega))
          have x2 : ∀ v1, Later Wd v1 → v1.cell? ⟨g, p * 8 + 2, none⟩ = some (.int .u32 x.d) := fun v1 h => (HX.out v1 h 2 (by omega))
          have x3 : ∀ v1, Later Wd v1 → v1.cell? ⟨g, p * 8 + 3, none⟩ = some (.int .u16 x.a) := fun v1 h => (HX.out v1 h 3 (by omega))
          have x4 : ∀ v1, Later Wd v1 → v1.cell? ⟨g, p * 8 + 4, none⟩ = some (.int .u16 x.b) := fun v1 h => (HX.out v1 h 4 (by omega))
          have x5 : ∀ v1, Later Wd v1 → v1.cell? ⟨g, p * 8 + 5, none⟩ = some (.int .i64 x.id) := fun v1 h => (HX.out v1 h 5 (by omega))
          have x6 : ∀ v1, Later Wd v1 → v1.cell? ⟨g, p * 8 + 6, none⟩ = some (.int .i64 x.till) := fun v1 h => (HX.out v1 h 6 (by omega))
          have x7 : ∀ v1, Later Wd v1 → v1.cell? ⟨g, p * 8 + 7, none⟩ = some (.int .i64 x.turn) := fun v1 h => (HX.out v1 h 7 (by omega))
          refine anyT_val Later.pre 0 rfl (by kernel_rfl) (by kernel_rfl) (by kernel_rfl) (fun _ _ _ _ h => h) rfl ?_; apply Exists.intro; refine ⟨fun v1 hv1 => ?_, ?_⟩; (· (go_simp; rfl)); simp only [Act.put, List.setIfInBounds_toArray, List.set_cons_zero, List.set_cons_succ]
          refine anyT_val Later.pre 1 rfl (by kernel_rfl) (by kernel_rfl) (by kernel_rfl) (fun _ _ _ _ h => h) rfl ?_; apply Exists.intro; refine ⟨fun v1 hv1 => ?_, ?_⟩; (· (go_simp; rfl)); simp only [Act.put, List.setIfInBounds_toArray, List.set_cons_zero, List.set_cons_succ]
          refine anyT_val Later.pre 2 rfl (by kernel_rfl) (by kernel_rfl) (by kernel_rfl) (fun _ _ _ _ h => h) rfl ?_
          refine ⟨.bool true, fun v1 hv1 => ?_, ?_⟩
          · go_simp
            try simp [g00, g0]
          simp only [Act.put, List.setIfInBounds_toArray, List.set_cons_zero, List.set_cons_succ]
          refine anyT_val Later.pre 3 rfl (by kernel_rfl) (by kernel_rfl) (by kernel_rfl) (fun _ _ _ _ h => h) rfl ?_; apply Exists.intro; refine ⟨fun v1 hv1 => ?_, ?_⟩; (· (go_simp; rfl)); simp only [Act.put, List.setIfInBounds_toArray, List.set_cons_zero, List.set_cons_succ]
          refine anyT_valG Later.pre 4 rfl (by kernel_rfl) (by kernel_rfl) (by kernel_rfl) (fun _ _ _ _ h => h) (by rfl) ?_; apply Exists.intro; refine ⟨fun v1 hv1 => ?_, ?_⟩; (· (go_simp; rfl)); simp only [Act.put, List.setIfInBounds_toArray, List.set_cons_zero, List.set_cons_succ]
          refine anyT_valG Later.pre 5 rfl (by kernel_rfl) (by kernel_rfl) (by kernel_rfl) (fun _ _ _ _ h => h) (by rfl) ?_; apply Exists.intro; refine ⟨fun v1 hv1 => ?_, ?_⟩; (· (go_simp; rfl)); simp only [Act.put, List.setIfInBounds_toArray, List.set_cons_zero, List.set_cons_succ]
          refine anyT_valG Later.pre 6 rfl (by kernel_rfl) (by kernel_rfl) (by kernel_rfl) (fun _ _ _ _ h => h) (by rfl) ?_; apply Exists.intro; refine ⟨fun v1 hv1 => ?_, ?_⟩; (· (go_simp; rfl)); simp only [Act.put, List.setIfInBounds_toArray, List.set_cons_zero, List.set_cons_succ]
          refine anyT_valG Later.pre 7 rfl (by kernel_rfl) (by kernel_rfl) (by kernel_rfl) (fun _ _ _ _ h => h) (by rfl) ?_; apply Exists.intro; refine ⟨fun v1 hv1 => ?_, ?_⟩; (· (go_simp; rfl)); simp only [Act.put, List.setIfInBounds_toArray, List.set_cons_zero, List.set_cons_succ]
          refine anyT_valG Later.pre 8 rfl (by kernel_rfl) (by kernel_rfl) (by kernel_rfl) (fun _ _ _ _ h => h) (by rfl) ?_; apply Exists.intro; refine ⟨fun v1 hv1 => ?_, ?_⟩; (· (go_simp; rfl)); simp only [Act.put, List.setIfInBounds_toArray, List.set_cons_zero, List.set_cons_succ]
          refine anyT_valG Later.pre 9 rfl (by kernel_rfl) (by kernel_rfl) (by kernel_rfl) (fun _ _ _ _ h => h) (by rfl) ?_; apply Exists.intro; refine ⟨fun v1 hv1 => ?_, ?_⟩; (· (go_simp; rfl)); simp only [Act.put, List.setIfInBounds_toArray, List.set_cons_zero, List.set_cons_succ]
          refine anyT_valG Later.pre 10 rfl (by kernel_rfl) (by kernel_rfl) (by kernel_rfl) (fun _ _ _ _ h => h) (by rfl) ?_; apply Exists.intro; refine ⟨fun v1 hv1 => ?_, ?_⟩; (· (go_simp; rfl)); simp only [Act.put, List.setIfInBounds_toArray, List.set_cons_zero, List.set_cons_succ]
          refine anyT_valG Later.pre 11 rfl (by kernel_rfl) (by kernel_rfl) (by kernel_rfl) (fun _ _ _ _ h => h) (by rfl) ?_; refine ⟨.int .i64 (q : Int), fun v1 hv1 => ?_, ?_⟩; (· (go_simp; rw [HWR.out])); simp only [Act.put, List.setIfInBounds_toArray, List.set_cons_zero, List.set_cons_succ]
          refine anyT_valG Later.pre 12 rfl (by kernel_rfl) (by kernel_rfl) (by kernel_rfl) (fun _ _ _ _ h => h) (by rfl) ?_; apply Exists.intro; refine ⟨fun v1 hv1 => ?_, ?_⟩; (· (go_simp; rfl)); simp only [Act.put, List.setIfInBounds_toArray, List.set_cons_zero, List.set_cons_succ]
          refine anyT_valG Later.pre 13 rfl (by kernel_rfl) (by kernel_rfl) (by kernel_rfl) (fun _ _ _ _ h => h) (by rfl) ?_; apply Exists.intro; refine ⟨fun v1 hv1 => ?_, ?_⟩; (· (go_simp; rfl)); simp only [Act.put, List.setIfInBounds_toArray, List.set_cons_zero, List.set_cons_succ]
          clear y0 y1 y2 y3 y4 y5 y6 y7 x0 x1 x2 x3 x4 x5 x6 x7
          refine anyT_oneG 14 rfl (by kernel_rfl) (by rfl) ?_
          refine wp_enter 41 #[.agg #[.int .u8 x.p, .int .u32 x.s, .int .u32 x.d, .int .u16 x.a, .int .u16 x.b, .int .i64 x.id, .int .i64 x.till, .int .i64 x.turn], .agg #[.int .u8 y.p, .int .u32 y.s, .int .u32 y.d, .int .u16 y.a, .int .u16 y.b, .int .i64 y.id, .int .i64 y.till, .int .i64 y.turn]] (by go_simp) ?_
          refine (inOrder_any x y Wd).mono ?_
          rintro e W1 ⟨rfl, hb1⟩
          have m1 : Later Wd W1 := hb1
          refine ⟨m1, ?_⟩
          simp only [Act.put, List.setIfInBounds_toArray, List.set_cons_zero, List.set_cons_succ]
          have hc1 := later_keep m1 hcd
          have hb1' := hbd.trans (But.of m1)
          clear hcd hbd m1 hb1 HY HX
          have HLT : Hid (ltR x y = decide (ordv x y < 0)) := rfl
          generalize ordv x y = o at *
          by_cases ho : o < 0
          · refine anyT_valG Later.pre 15 rfl (by kernel_rfl) (by kernel_rfl) (by kernel_rfl) (fun _ _ _ _ h => h) (by rfl) ?_; apply Exists.intro; refine ⟨fun v1 hv1 => ?_, ?_⟩; (· (go_simp; rfl)); simp only [Act.put, List.setIfInBounds_toArray, List.set_cons_zero, List.set_cons_succ]
            refine anyT_val Later.pre 16 rfl (by kernel_rfl) (by kernel_rfl) (by kernel_rfl) (fun _ _ _ _ h => h) rfl ?_; apply Exists.intro; refine ⟨fun v1 hv1 => ?_, ?_⟩; (· (go_simp; rfl)); simp only [Act.put, List.setIfInBounds_toArray, List.set_cons_zero, List.set_cons_succ]
            refine anyT_done (by kernel_rfl) ?_
            go_upto_region 6 with fail
            refine anyU_begin (R1 := Later) (R2 := But (fun b => b = g)) (D := [15, 17]) 18 rfl (by kernel_rfl) ?_
            have ld : Later W1 W1.drew := Later.drew W1
            have hcd := later_keep ld hc1
            have hbd := hb1'.trans (But.of ld)
            clear hc1 hb1' ld
            generalize W1.drew = We at *
            have HYe : Hid (∀ v1, Later We v1 → ∀ i, i < 8 → v1.cell? ⟨g, q * 8 + i, none⟩ = (rwc y)[i]?) := fun v1 h i hi => by
              rw [block_cell (later_keep h hcd), List.getElem?_toArray, List.getElem?_append_right (by omega), hrl, Nat.add_sub_cancel_left, List.getElem?_append_left (by rw [rwc_length]; exact hi)]
            have HXe : Hid (∀ v1, Later We v1 → ∀ i, i < 8 → v1.cell? ⟨g, p * 8 + i, none⟩ = (rwc x)[i]?) := fun v1 h i hi => by
              have hlp := HLP.out; rw [block_cell (later_keep h hcd), List.getElem?_toArray, List.getElem?_append_right (by omega), hrl, List.getElem?_append_right (by rw [rwc_length]; omega), rwc_length, show p * 8 + i - q * 8 - 8 = i from by omega, List.getElem?_append_left (by rw [rwc_length]; exact hi)]
            have y0e : ∀ v1, Later We v1 → v1.cell? ⟨g, q * 8, none⟩ = some (.int .u8 y.p) := fun v1 h => (HYe.out v1 h 0 (by omega))
            have y1e : ∀ v1, Later We v1 → v1.cell? ⟨g, q * 8 + 1, none⟩ = some (.int .u32 y.s) := fun v1 h => (HYe.out v1 h 1 (by omega))
            have y2e : ∀ v1, Later We v1 → v1.cell? ⟨g, q * 8 + 2, none⟩ = some (.int .u32 y.d) := fun v1 h => (HYe.out v1 h 2 (by omega))
            have y3e : ∀ v1, Later We v1 → v1.cell? ⟨g, q * 8 + 3, none⟩ = some (.int .u16 y.a) := fun v1 h => (HYe.out v1 h 3 (by omega))
            have y4e : ∀ v1, Later We v1 → v1.cell? ⟨g, q * 8 + 4, none⟩ = some (.int .u16 y.b) := fun v1 h => (HYe.out v1 h 4 (by omega))
            have y5e : ∀ v1, Later We v1 → v1.cell? ⟨g, q * 8 + 5, none⟩ = some (.int .i64 y.id) := fun v1 h => (HYe.out v1 h 5 (by omega))
            have y6e : ∀ v1, Later We v1 → v1.cell? ⟨g, q * 8 + 6, none⟩ = some (.int .i64 y.till) := fun v1 h => (HYe.out v1 h 6 (by omega))
            have y7e : ∀ v1, Later We v1 → v1.cell? ⟨g, q * 8 + 7, none⟩ = some (.int .i64 y.turn) := fun v1 h => (HYe.out v1 h 7 (by omega))
            have x0e : ∀ v1, Later We v1 → v1.cell? ⟨g, p * 8, none⟩ = some (.int .u8 x.p) := fun v1 h => (HXe.out v1 h 0 (by omega))
            have x1e : ∀ v1, Later We v1 → v1.cell? ⟨g, p * 8 + 1, none⟩ = some (.int .u32 x.s) := fun v1 h => (HXe.out v1 h 1 (by omega))
            have x2e : ∀ v1, Later We v1 → v1.cell? ⟨g, p * 8 + 2, none⟩ = some (.int .u32 x.d) := fun v1 h => (HXe.out v1 h 2 (by omega))
            have x3e : ∀ v1, Later We v1 → v1.cell? ⟨g, p * 8 + 3, none⟩ = some (.int .u16 x.a) := fun v1 h => (HXe.out v1 h 3 (by omega))
            have x4e : ∀ v1, Later We v1 → v1.cell? ⟨g, p * 8 + 4, none⟩ = some (.int .u16 x.b) := fun v1 h => (HXe.out v1 h 4 (by omega))
            have x5e : ∀ v1, Later We v1 → v1.cell? ⟨g, p * 8 + 5, none⟩ = some (.int .i64 x.id) := fun v1 h => (HXe.out v1 h 5 (by omega))
            have x6e : ∀ v1, Later We v1 → v1.cell? ⟨g, p * 8 + 6, none⟩ = some (.int .i64 x.till) := fun v1 h => (HXe.out v1 h 6 (by omega))
            have x7e : ∀ v1, Later We v1 → v1.cell? ⟨g, p * 8 + 7, none⟩ = some (.int .i64 x.turn) := fun v1 h => (HXe.out v1 h 7 (by omega))
            refine anyU_pure Later.refl (But.refl _) 0 rfl (by kernel_rfl) (by kernel_rfl) (by kernel_rfl) (fun _ _ _ _ h => h) (by rfl) ?_; apply Exists.intro; refine ⟨fun v1 => ?_, ?_⟩; (· (go_simp; rfl)); simp only [Act.put, List.setIfInBounds_toArray, List.set_cons_zero, List.set_cons_succ]
            refine anyU_pure Later.refl (But.refl _) 1 rfl (by kernel_rfl) (by kernel_rfl) (by kernel_rfl) (fun _ _ _ _ h => h) (by rfl) ?_; apply Exists.intro; refine ⟨fun v1 => ?_, ?_⟩; (· (go_simp; rfl)); simp only [Act.put, List.setIfInBounds_toArray, List.set_cons_zero, List.set_cons_succ]
            refine anyU_pure Later.refl (But.refl _) 2 rfl (by kernel_rfl) (by kernel_rfl) (by kernel_rfl) (fun _ _ _ _ h => h) (by rfl) ?_; apply Exists.intro; refine ⟨fun v1 => ?_, ?_⟩; (· (go_simp; rfl)); simp only [Act.put, List.setIfInBounds_toArray, List.set_cons_zero, List.set_cons_succ]
            refine anyU_pure Later.refl (But.refl _) 3 rfl (by kernel_rfl) (by kernel_rfl) (by kernel_rfl) (fun _ _ _ _ h => h) (by rfl) ?_; apply Exists.intro; refine ⟨fun v1 => ?_, ?_⟩; (· (go_simp; rfl)); simp only [Act.put, List.setIfInBounds_toArray, List.set_cons_zero, List.set_cons_succ]
            refine anyU_pure Later.refl (But.refl _) 4 rfl (by kernel_rfl) (by kernel_rfl) (by kernel_rfl) (fun _ _ _ _ h => h) (by rfl) ?_; refine ⟨.int .i64 (q : Int), fun v1 => ?_, ?_⟩; (· (go_simp; rw [HWR.out])); simp only [Act.put, List.setIfInBounds_toArray, List.set_cons_zero, List.set_cons_succ]
            refine anyU_pure Later.refl (But.refl _) 5 rfl (by kernel_rfl) (by kernel_rfl) (by kernel_rfl) (fun _ _ _ _ h => h) (by rfl) ?_; apply Exists.intro; refine ⟨fun v1 => ?_, ?_⟩; (· (go_simp; rfl)); simp only [Act.put, List.setIfInBounds_toArray, List.set_cons_zero, List.set_cons_succ]
            refine anyU_pure Later.refl (But.refl _) 6 rfl (by kernel_rfl) (by kernel_rfl) (by kernel_rfl) (fun _ _ _ _ h => h) (by rfl) ?_; apply Exists.intro; refine ⟨fun v1 => ?_, ?_⟩; (· (go_simp; rfl)); simp only [Act.put, List.setIfInBounds_toArray, List.set_cons_zero, List.set_cons_succ]
            refine anyU_pure Later.refl (But.refl _) 7 rfl (by kernel_rfl) (by kernel_rfl) (by kernel_rfl) (fun _ _ _ _ h => h) (by rfl) ?_; refine ⟨.int .i64 (q : Int), fun v1 => ?_, ?_⟩; (· (go_simp; rw [HWR.out])); simp only [Act.put, List.setIfInBounds_toArray, List.set_cons_zero, List.set_cons_succ]
            refine anyU_pure Later.refl (But.refl _) 8 rfl (by kernel_rfl) (by kernel_rfl) (by kernel_rfl) (fun _ _ _ _ h => h) (by rfl) ?_; apply Exists.intro; refine ⟨fun v1 => ?_, ?_⟩; (· (go_simp; rfl)); simp only [Act.put, List.setIfInBounds_toArray, List.set_cons_zero, List.set_cons_succ]
            refine anyU_val Later.pre 9 [15, 17] rfl (by rfl) (by rfl) (by kernel_rfl) (by kernel_rfl) (by kernel_rfl) (by kernel_rfl) (by kernel_rfl) (fun _ _ _ _ h => h) (by rfl) ?_; apply Exists.intro; refine ⟨fun v1 hv1 => ?_, ?_⟩; (· (go_simp; rfl)); simp only [Act.put, List.setIfInBounds_toArray, List.set_cons_zero, List.set_cons_succ]
            refine anyU_pure Later.refl (But.refl _) 10 rfl (by kernel_rfl) (by kernel_rfl) (by kernel_rfl) (fun _ _ _ _ h => h) (by rfl) ?_; apply Exists.intro; refine ⟨fun v1 => ?_, ?_⟩; (· (go_simp; rfl)); simp only [Act.put, List.setIfInBounds_toArray, List.set_cons_zero, List.set_cons_succ]
            refine anyU_pure Later.refl (But.refl _) 11 rfl (by kernel_rfl) (by kernel_rfl) (by kernel_rfl) (fun _ _ _ _ h => h) (by rfl) ?_; apply Exists.intro; refine ⟨fun v1 => ?_, ?_⟩; (· (go_simp; rfl)); simp only [Act.put, List.setIfInBounds_toArray, List.set_cons_zero, List.set_cons_succ]
            refine anyU_pure Later.refl (But.refl _) 12 rfl (by kernel_rfl) (by kernel_rfl) (by kernel_rfl) (fun _ _ _ _ h => h) (by rfl) ?_; apply Exists.intro; refine ⟨fun v1 => ?_, ?_⟩; (· (go_simp; rfl)); simp only [Act.put, List.setIfInBounds_toArray, List.set_cons_zero, List.set_cons_succ]
            refine anyU_val Later.pre 13 [15, 17] rfl (by rfl) (by rfl) (by kernel_rfl) (by kernel_rfl) (by kernel_rfl) (by kernel_rfl) (by kernel_rfl) (fun _ _ _ _ h => h) (by rfl) ?_; apply Exists.intro; refine ⟨fun v1 hv1 => ?_, ?_⟩; (· (go_simp; rfl)); simp only [Act.put, List.setIfInBounds_toArray, List.set_cons_zero, List.set_cons_succ]
            refine anyU_pure Later.refl (But.refl _) 14 rfl (by kernel_rfl) (by kernel_rfl) (by kernel_rfl) (fun _ _ _ _ h => h) (by rfl) ?_; apply Exists.intro; refine ⟨fun v1 => ?_, ?_⟩; (· (go_simp; rfl)); simp only [Act.put, List.setIfInBounds_toArray, List.set_cons_zero, List.set_cons_succ]
            have c0 := x0e We (Later.refl We)
            have c1 := x1e We (Later.refl We)
            have c2 := x2e We (Later.refl We)
            have c3 := x3e We (Later.refl We)
            have c4 := x4e We (Later.refl We)
            have c5 := x5e We (Later.refl We)
            have c6 := x6e We (Later.refl We)
            have c7 := x7e We (Later.refl We)
            clear y0e y1e y2e y3e y4e y5e y6e y7e x0e x1e x2e x3e x4e x5e x6e x7e
            have Fe := block_frozen hcd
            have hput : (putRow We g (p * 8) (rwc y)).heap[g]? = some (.cells (rws A' ++ (rwc y ++ (rwc y ++ (rws (B ++ suf) ++ post)))).toArray 65 (0, 0)) := by
              have := putRow_mid (rwc y) (rws A' ++ rwc y) (rwc x) (rws (B ++ suf) ++ post) We (by rw [hcd, List.append_assoc]) rfl
              have hlp := HLP.out
              rw [List.length_append, hrl, rwc_length, show q * 8 + 8 = p * 8 from by omega, List.append_assoc] at this
              exact this
            have hbp : But (fun b => b = g) We (putRow We g (p * 8) (rwc y)) := putRow_but (E := fun b => b = g) rfl _ _ _ _ (But.refl _ _)
            have HPUT := hide hput
            have HBP := hide hbp
            clear hput hbp
            refine anyU_one 15 rfl (by kernel_rfl) (by rfl) ?_
            unfold Oper.wp
            go_simp
            refine ⟨Rj_in (by rfl) HBP.out, ?_⟩
            change wpAnyU _ _ _ _ _ _ _ _ _ _ (putRow We g (p * 8) (rwc y))
            have hp1 := HPUT.out
            have hbf := hbd.trans HBP.out
            clear c0 c1 c2 c3 c4 c5 c6 c7 HPUT HBP hcd hbd Fe HYe HXe
            generalize putRow We g (p * 8) (rwc y) = Wf at *
            have hyf : ∀ i, i < 8 → Wf.cell? ⟨g, q * 8 + i, none⟩ = (rwc y)[i]? := fun i hi => by
              rw [block_cell hp1, List.getElem?_toArray, List.getElem?_append_right (by omega), hrl, Nat.add_sub_cancel_left, List.getElem?_append_left (by rw [rwc_length]; exact hi)]
            have c0 : Wf.cell? ⟨g, q * 8, none⟩ = some (.int .u8 y.p) := hyf 0 (by omega)
            have c1 : Wf.cell? ⟨g, q * 8 + 1, none⟩ = some (.int .u32 y.s) := hyf 1 (by omega)
            have c2 : Wf.cell? ⟨g, q * 8 + 2, none⟩ = some (.int .u32 y.d) := hyf 2 (by omega)
            have c3 : Wf.cell? ⟨g, q * 8 + 3, none⟩ = some (.int .u16 y.a) := hyf 3 (by omega)
            have c4 : Wf.cell? ⟨g, q * 8 + 4, none⟩ = some (.int .u16 y.b) := hyf 4 (by omega)
            have c5 : Wf.cell? ⟨g, q * 8 + 5, none⟩ = some (.int .i64 y.id) := hyf 5 (by omega)
            have c6 : Wf.cell? ⟨g, q * 8 + 6, none⟩ = some (.int .i64 y.till) := hyf 6 (by omega)
            have c7 : Wf.cell? ⟨g, q * 8 + 7, none⟩ = some (.int .i64 y.turn) := hyf 7 (by omega)
            clear hyf
            refine anyU_pure Later.refl (But.refl _) 16 rfl (by kernel_rfl) (by kernel_rfl) (by kernel_rfl) (fun _ _ _ _ h => h) (by rfl) ?_; apply Exists.intro; refine ⟨fun v1 => ?_, ?_⟩; (· (go_simp; rfl)); simp only [Act.put, List.setIfInBounds_toArray, List.set_cons_zero, List.set_cons_succ]
            have Ff := block_frozen hp1
            have hput : (putRow Wf g (q * 8) (rwc x)).heap[g]? = some (.cells (rws A' ++ (rwc x ++ (rwc y ++ (rws (B ++ suf) ++ post)))).toArray 65 (0, 0)) := by
              have := putRow_mid (rwc x) (rws A') (rwc y) (rwc y ++ (rws (B ++ suf) ++ post)) Wf hp1 rfl
              rw [hrl] at this
              exact this
            have hbp : But (fun b => b = g) Wf (putRow Wf g (q * 8) (rwc x)) := putRow_but (E := fun b => b = g) rfl _ _ _ _ (But.refl _ _)
            have HPUT := hide hput
            have HBP := hide hbp
            clear hput hbp
            refine anyU_one 17 rfl (by kernel_rfl) (by rfl) ?_
            unfold Oper.wp
            go_simp
            refine ⟨Rj_in (by rfl) HBP.out, ?_⟩
            change wpAnyU _ _ _ _ _ _ _ _ _ _ (putRow Wf g (q * 8) (rwc x))
            have hp2 := HPUT.out
            have hbg := hbf.trans HBP.out
            clear c0 c1 c2 c3 c4 c5 c6 c7 HPUT HBP hp1 hbf Ff
            generalize putRow Wf g (q * 8) (rwc x) = Wg at *
            refine anyU_done (by kernel_rfl) ?_
            have HREL : Hid (∃ A B, P = A ++ B ∧ (Value.int .i64 (q : Int)) = .int .i64 (A.length : Int) ∧ (∀ e ∈ B, ltR x e = true) ∧ Wg.heap[g]? = some (.cells (rws A ++ (rwc x ++ (rws (B ++ suf) ++ post))).toArray 65 (0, 0)) ∧ But (fun b => b = g) w Wg) :=
              ⟨A', y :: B, by rw [HAB.out]; simp, by rw [HQQ.out], fun e he => by
                rcases List.mem_cons.1 he with rfl | he
                · rw [HLT.out]; simpa using ho
                · exact hB e he, by rw [hp2, List.cons_append, rws_cons]; simp, hbg⟩
            go_wp2_with fail
            go_roundw
            case rel => exact HREL.out
            case measure => simp [intOf]; omega
          · refine anyT_valG Later.pre 15 rfl (by kernel_rfl) (by kernel_rfl) (by kernel_rfl) (fun _ _ _ _ h => h) (by rfl) ?_; apply Exists.intro; refine ⟨fun v1 hv1 => ?_, ?_⟩; (· (go_simp; rfl)); simp only [Act.put, List.setIfInBounds_toArray, List.set_cons_zero, List.set_cons_succ]
            refine anyT_val Later.pre 16 rfl (by kernel_rfl) (by kernel_rfl) (by kernel_rfl) (fun _ _ _ _ h => h) rfl ?_; apply Exists.intro; refine ⟨fun v1 hv1 => ?_, ?_⟩; (· (go_simp; rfl)); simp only [Act.put, List.setIfInBounds_toArray, List.set_cons_zero, List.set_cons_succ]
            refine anyT_done (by kernel_rfl) ?_
            have HREL : Hid (∃ k' : Nat, 1 ≤ k' ∧ k' ≤ l.length ∧ (Value.int .i64 ((k : Int) + 1)) = .int .i64 (k' : Int) ∧ W1.heap[g]? = some (.cells (rws (isort (l.take k') ++ l.drop k') ++ post).toArray 65 (0, 0)) ∧ But (fun b => b = g) w W1) :=
              ⟨k + 1, by omega, by omega, by simp, by
                rw [HTK.out, HSF.out, HAB.out, insF_eq hB (fun e he => by
                  obtain rfl : e = y := by simpa using he.symm
                  rw [HLT.out]; simpa using ho), hc1]
                simp [rws], hb1'⟩
            go_wp2_with fail
            go_roundw
            case rel => exact HREL.out
            case measure => simp [intOf]; omega
    · obtain rfl : k = l.length := by omega
      rw [List.take_length, List.drop_length, List.append_nil] at hcr
      go_wp2_with fail
      go_end0
      exact ⟨⟨_, rfl⟩, hcr, hbt⟩

set_option maxHeartbeats 2000000 in
theorem pdq_few (g cap : Nat) (l : List Rw) (post : List Value) (lm : Int) (w : World) (hl1 : 1 ≤ l.length) (hl : l.length ≤ 12) (hcap : l.length ≤ cap ∧ cap ≤ 9223372036854775807)
    (hh : w.heap[g]? = some (.cells (rws l ++ post).toArray 65 (0, 0))) :
    Calls Try.prog 52 #[.slice (some ⟨g, 0, none⟩) l.length cap, .int .i64 0, .int .i64 (l.length : Int), .int .i64 lm, .func (.func 41) #[] #[]] w fun e w' => (∃ u, e = .returned u) ∧ w'.heap[g]? = some (.cells (rws (isort l) ++ post).toArray 65 (0, 0)) ∧ But (fun b => b = g) w w' := by
  have h1 : (l.length : Int) ≤ 12 := by omega
  go_enter Try.func52, Try.ntmps52
  go_wp2_with fail
  go_loopw [1, 2] (fun a b wr => a = .int .i64 0 ∧ b = .int .i64 (l.length : Int) ∧ wr = w) (fun _ _ _ => 0)
  case atStart => exact ⟨rfl, rfl, rfl⟩
  case round =>
    obtain ⟨rfl, rfl, rfl⟩ := hrel
    go_wp2_with fail
    refine (insert_any g cap l post wr hl1 hl hcap hh).mono ?_
    rintro e w1 ⟨⟨v, rfl⟩, hc, hb⟩
    go_wp2_with fail
    refine bodyPost_ret (results_none rfl _ _ _) rfl ?_
    exact ⟨⟨_, rfl⟩, hc, hb⟩

set_option maxHeartbeats 2000000 in
theorem sorts_few (l : List Rw) (hl : l.length ≤ 12) : SortsTo l (isort l) := by
  by_cases h0 : l.length = 0
  · obtain rfl : l = [] := List.eq_nil_of_length_eq_zero h0
    exact sorts_one [] (by simp)
  refine ⟨isort_length l, fun base v W hv => ?_⟩
  obtain ⟨h1, ⟨_, e⟩ | ⟨g, cap, cur, rfl, hgb, hh, hlc, hm, hs, hc⟩⟩ := hv
  · exact absurd e h0
  obtain ⟨post, hpost⟩ : ∃ post, cur.toList = rws l ++ post := ⟨cur.toList.drop (l.length * 8), by rw [← hc, List.take_append_drop]⟩
  have hh' : W.heap[g]? = some (.cells (rws l ++ post).toArray 65 (0, 0)) := by
    rw [hh, ← hpost]
  have hn : (l.length : Int) ≤ 12 := by omega
  have hm' : cap ≤ 9223372036854775807 := by simpa [maxLen] using hm
  have hpl : (rws (isort l) ++ post).length = cur.size := by
    have := congrArg List.length hpost
    rw [List.length_append, rws_length, Array.length_toList] at this
    rw [List.length_append, rws_length, isort_length]
    omega
  have HF : Hid (∀ W' : World, W'.heap[g]? = some (.cells (rws (isort l) ++ post).toArray 65 (0, 0)) → W'.ownsRow base 65 8 (.slice (some ⟨g, 0, none⟩) l.length cap) l.length (rws (isort l))) := fun W' hW' => by
    refine ⟨by rw [rws_length, isort_length], .inr ⟨g, cap, _, rfl, hgb, hW', hlc, hm, ?_, ?_⟩⟩
    · rw [List.size_toArray, hpl, hs]
    · rw [List.toList_toArray, List.take_left' (by rw [rws_length, isort_length])]
  have HH := hide hh'
  clear hh hh' hc hs hpost hpl h1
  go_enter Try.func40, Try.ntmps40
  go_wp2_with fail
  refine (len_few l.length W hl).mono ?_
  rintro e w1 ⟨⟨v, rfl⟩, rfl⟩
  go_wp2_with fail
  refine (pdq_few g cap l post v w1 (by omega) hl ⟨hlc, hm'⟩ HH.out).mono ?_
  rintro e w2 ⟨⟨v2, rfl⟩, hc2, hb2⟩
  go_wp2_with fail
  go_end0
  exact ⟨⟨_, rfl⟩, HF.out _ hc2, ⟨hb2.os, hb2.tape, hb2.output, hb2.size, fun k hk he => hb2.block k hk (fun e => he (by rw [e]; rfl))⟩⟩
end Go.Proofs.Ytahphjindjlcpaa

/- The walk of TableLimits. -/
namespace Go.Proofs.Ytahphjindjlcpaa
open Go.RowKit Go.Shelf
set_option maxRecDepth 100000
set_option linter.unusedVariables false
set_option linter.unusedSimpArgs false

theorem bkr_lt (r : Rw) : bkr r < 256 := by have := hsh_tb r.p r.s r.d r.a r.b; unfold bkr; omega
/-- All rows, list by list, are the document's in another order. -/
theorem Rel.perm {ls : Nat → List Rw} {l : List Rw} (h : Rel ls l) : (allR ls).Perm l := by
  have hn : ∀ m : List Rw, UP m → m.Nodup := fun m hm => List.Pairwise.imp (fun {x y} hxy e => hxy (by rw [e])) hm
  refine (List.perm_ext_iff_of_nodup ?_ (hn _ h.up)).2 fun r => ?_
  · unfold allR List.Nodup
    rw [List.pairwise_flatMap]
    refine ⟨fun i _ => hn _ (h.once i), ?_⟩
    refine List.Pairwise.imp ?_ List.nodup_range
    intro i j hij x hx y hy e
    rw [← h.place i x hx, ← h.place j y hy, e] at hij
    exact hij rfl
  · unfold allR
    rw [List.mem_flatMap, h.mem r]
    constructor
    · rintro ⟨i, _, hr⟩
      rw [h.place i r hr]
      exact hr
    · intro hr
      exact ⟨bkr r, by simpa using bkr_lt r, hr⟩
theorem Rel.due_all {ls : Nat → List Rw} {l : List Rw} {lim : Int} (h : Rel ls l) (hw : Wfl lim l) : duR 1099511627776 (allR ls) = allR ls := by
  unfold duR
  rw [List.filter_eq_self]
  intro r hr
  simpa using (hw.2 r (h.perm.mem_iff.1 hr)).2

end Go.Proofs.Ytahphjindjlcpaa
