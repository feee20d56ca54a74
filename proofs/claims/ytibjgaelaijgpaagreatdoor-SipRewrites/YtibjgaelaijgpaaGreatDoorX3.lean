/- Several texts in one. -/
import Derived.Test.YtibjgaelaijgpaaGreatDoorX4
import Derived.Sort.CutIn
import Derived.MapKept
import Derived.Test.YtibjgaelaijgpaaGreatDoorX5
import Derived.Laws.Closers25b
import Derived.Laws.BitsLemmas
import Derived.Test.YtibjgaelaijgpaaGreatDoorVS
import Derived.Lib.ConvBytes
/- Package sip: split. -/
namespace Go.Proofs.YtibjgaelaijgpaaGreatDoor
open Go.RowKit Go.Shelf
set_option maxRecDepth 100000
attribute [local go_sem] Oper.semAt_some
set_option linter.unusedVariables false
set_option linter.unusedSimpArgs false

theorem OwG.ct {base : Nat} {A B : World} {v : Value} {ys : List Int} (h : OwG base A v ys) (k : CTs A B) : OwG base B v ys := let ⟨g, cap, cur, fz, e, hb, hh, r⟩ := h; ⟨g, cap, cur, fz, e, hb, k.2 _ _ hh rfl, r⟩
theorem OwG.mono {base base' : Nat} {A : World} {v : Value} {ys : List Int} (h : OwG base A v ys) (k : base' ≤ base) : OwG base' A v ys := let ⟨g, cap, cur, fz, e, hb, r⟩ := h; ⟨g, cap, cur, fz, e, Nat.le_trans k hb, r⟩

/-- What split keeps while it goes along the lines. -/
def PS14 (g gx base : Nat) (st rest : ByteArray) (pre : List (ByteArray × ByteArray)) (W : World) : Prop :=
  W.heap[g]? = some (.cells #[.string ⟨#[]⟩, .slice none 0 0, .slice none 0 0] 25 (0, 0)) ∧ W.heap[g + 1]? = some (.cells #[.bool false] 4 (0, 0)) ∧ W.heap[gx]? = some (.cells #[.string rest] 9 (0, 0)) ∧
  (∃ vh hs, W.heap[gx + 1]? = some (.cells #[.string st, vh, .slice none 0 0] 25 (0, 0)) ∧ W.ownsRow base 44 2 vh hs.length (hrs hs) ∧ hs.length = pre.length ∧ Hid (spT rest = ppd hs (spT (itZ pre.length rest)))) ∧
  W.heap[gx + 1 + 1]? = some (.cells #[.int .i64 (tkn pre : Nat)] 3 (0, 0))
theorem PS14.ct {g gx base : Nat} {st rest : ByteArray} {pre : List (ByteArray × ByteArray)} {A B : World} (h : PS14 g gx base st rest pre A) (k : CTs A B) : PS14 g gx base st rest pre B := by
  obtain ⟨h1, h2, h3, ⟨vh, hs, h4, h5, h6⟩, h7⟩ := h
  exact ⟨k.2 _ _ h1 rfl, k.2 _ _ h2 rfl, k.2 _ _ h3 rfl, ⟨vh, hs, k.2 _ _ h4 rfl, ownsS_ct h5 k, h6⟩, k.2 _ _ h7 rfl⟩
/-- What it leaves. -/
def RS14 (g base : Nat) (st rest : ByteArray) (W : World) : Prop :=
  (∃ vh vb hs b, W.heap[g]? = some (.cells #[.string st, vh, vb] 25 (0, 0)) ∧ W.heap[g + 1]? = some (.cells #[.bool true] 4 (0, 0)) ∧ Hid (spT rest = some (hs, b)) ∧ W.ownsRow base 44 2 vh hs.length (hrs hs) ∧ OwG base W vb (nmsB b)) ∨
  (W.heap[g]? = some (.cells #[.string ⟨#[]⟩, .slice none 0 0, .slice none 0 0] 25 (0, 0)) ∧ W.heap[g + 1]? = some (.cells #[.bool false] 4 (0, 0)) ∧ Hid (spT rest = none))
theorem RS14.ct {g base : Nat} {st rest : ByteArray} {A B : World} (h : RS14 g base st rest A) (k : CTs A B) : RS14 g base st rest B := by
  rcases h with ⟨vh, vb, hs, b, h1, h2, h3, h4, h5⟩ | ⟨h1, h2, h3⟩
  · exact .inl ⟨vh, vb, hs, b, k.2 _ _ h1 rfl, k.2 _ _ h2 rfl, h3, ownsS_ct h4 k, h5.ct k⟩
  · exact .inr ⟨k.2 _ _ h1 rfl, k.2 _ _ h2 rfl, h3⟩
end Go.Proofs.YtibjgaelaijgpaaGreatDoor

/- Package sip: Ports. -/
namespace Go.Proofs.YtibjgaelaijgpaaGreatDoor
open Go.RowKit Go.Shelf
set_option maxRecDepth 100000
attribute [local go_sem] Oper.semAt_some
set_option linter.unusedVariables false
set_option linter.unusedSimpArgs false

end Go.Proofs.YtibjgaelaijgpaaGreatDoor

/- The document's number, for the laws of package sip. -/
namespace Go.Proofs.YtibjgaelaijgpaaGreatDoor
open Go.RowKit Go.Shelf
set_option maxRecDepth 100000
set_option linter.unusedVariables false
set_option linter.unusedSimpArgs false

def dgE (zs : List Int) : Nat → Nat → Nat
  | 0, p => p
  | k + 1, p => if p < zs.length ∧ dgt (zs[p]?.getD 0) = true then dgE zs k (p + 1) else p
theorem dgE_le (zs : List Int) : ∀ k p, p ≤ zs.length → p ≤ dgE zs k p ∧ dgE zs k p ≤ zs.length
  | 0, p, h => ⟨Nat.le_refl _, h⟩
  | k + 1, p, h => by
    unfold dgE
    split
    · rename_i hq
      have := dgE_le zs k (p + 1) (by omega)
      omega
    · exact ⟨Nat.le_refl _, h⟩
/-- Where the digits end. -/
def dgZ (zs : List Int) (p : Nat) : Nat := dgE zs (zs.length - p) p
theorem dgZ_le {zs : List Int} {p : Nat} (h : p ≤ zs.length) : p ≤ dgZ zs p ∧ dgZ zs p ≤ zs.length := dgE_le zs _ p h
def dgS (zs : List Int) (p : Nat) : ByteArray := strOfNums ((zs.drop p).take (dgZ zs p - p))


/-- How the document goes through digits: where it stops, and what they say. -/
def nuE (zs : List Int) (most : Int) : Nat → Nat → Int → Nat × Int
  | 0, i, n => (i, n)
  | k + 1, i, n => if i < zs.length ∧ dgt (zs[i]?.getD 0) = true ∧ n ≤ most then nuE zs most k (i + 1) (n * 10 + (zs[i]?.getD 0 - 48)) else (i, n)
def nmZ (zs : List Int) (most : Int) (i : Nat) (n : Int) : Nat × Int := nuE zs most (zs.length - i) i n
theorem nmZ_go {zs : List Int} {most : Int} {i : Nat} {n : Int} (h : i < zs.length ∧ dgt (zs[i]?.getD 0) = true ∧ n ≤ most) : nmZ zs most i n = nmZ zs most (i + 1) (n * 10 + (zs[i]?.getD 0 - 48)) := by
  unfold nmZ
  rw [show zs.length - i = (zs.length - (i + 1)) + 1 by omega]
  show (if _ then _ else _) = _
  rw [if_pos h]
theorem nmZ_stop {zs : List Int} {most : Int} {i : Nat} {n : Int} (h : ¬ (i < zs.length ∧ dgt (zs[i]?.getD 0) = true ∧ n ≤ most)) : nmZ zs most i n = (i, n) := by
  unfold nmZ
  cases zs.length - i with
  | zero => rfl
  | succ k => show (if _ then _ else _) = _; rw [if_neg h]
/-- The document's number: none, where there is none. -/
def numD (zs : List Int) (p : Nat) (most : Int) : Option (Int × Nat) := if (nmZ zs most p 0).1 = p ∨ most < (nmZ zs most p 0).2 ∨ (zs[p]?.getD 0 = 48 ∧ p + 1 < (nmZ zs most p 0).1) ∨ ((nmZ zs most p 0).1 < zs.length ∧ dgt (zs[(nmZ zs most p 0).1]?.getD 0) = true) then none else some ((nmZ zs most p 0).2, (nmZ zs most p 0).1)


theorem dgE_in (zs : List Int) : ∀ k p j, p ≤ j → j < dgE zs k p → dgt (zs[j]?.getD 0) = true
  | 0, p, j, h1, h2 => by have : dgE zs 0 p = p := rfl; omega
  | k + 1, p, j, h1, h2 => by
    unfold dgE at h2
    split at h2
    · rename_i hq
      by_cases hj : j = p
      · subst hj; exact hq.2
      · exact dgE_in zs k (p + 1) j (by omega) h2
    · omega
theorem dgE_out (zs : List Int) : ∀ k p, zs.length - p ≤ k → dgE zs k p < zs.length → dgt (zs[dgE zs k p]?.getD 0) = false
  | 0, p, h1, h2 => by have : dgE zs 0 p = p := rfl; omega
  | k + 1, p, h1, h2 => by
    unfold dgE at h2 ⊢
    split at h2
    · rename_i hq
      rw [if_pos hq]
      exact dgE_out zs k (p + 1) (by omega) h2
    · rename_i hq
      rw [if_neg hq]
      cases hd : dgt (zs[p]?.getD 0) with
      | false => rfl
      | true => exact absurd ⟨h2, hd⟩ hq
theorem dgZ_in {zs : List Int} {p j : Nat} (h1 : p ≤ j) (h2 : j < dgZ zs p) : dgt (zs[j]?.getD 0) = true := dgE_in zs _ p j h1 h2
theorem dgZ_out {zs : List Int} {p : Nat} (h : dgZ zs p < zs.length) : dgt (zs[dgZ zs p]?.getD 0) = false := dgE_out zs _ p (Nat.le_refl _) h
theorem nuE_ge (zs : List Int) (most : Int) : ∀ k i n, i ≤ (nuE zs most k i n).1
  | 0, i, n => Nat.le_refl _
  | k + 1, i, n => by
    unfold nuE
    split
    · have := nuE_ge zs most k (i + 1) (n * 10 + (zs[i]?.getD 0 - 48)); omega
    · exact Nat.le_refl _
theorem dgS_size {zs : List Int} {p : Nat} (h : p ≤ zs.length) : (dgS zs p).size = dgZ zs p - p := by
  unfold dgS
  rw [strOfNums_size]
  have := dgZ_le h
  simp
  omega
theorem dgS_at {zs : List Int} {p j : Nat} (hz : Mt.By zs) (h : p ≤ zs.length) (hj : j < dgZ zs p - p) : bAt (dgS zs p) j = zs[p + j]?.getD 0 := by
  unfold dgS
  have := dgZ_le h
  rw [strOf_at _ (fun z hzz => hz z (List.mem_of_mem_drop (List.mem_of_mem_take hzz))) j (by simp; omega), List.getElem?_take, if_pos hj, List.getElem?_drop]
/-- Behind a first digit that is no nought. -/
theorem num_same {zs : List Int} {p : Nat} {most : Int} (hz : Mt.By zs) (hp : p ≤ zs.length) (hm : 0 ≤ most) (h0 : zs[p]?.getD 0 ≠ 48) : ∀ k pos n, pos + k = dgZ zs p - p → 0 ≤ n → n ≤ most → (0 < pos → 0 < n) → (pos = 0 → n = 0) →
    (numP (dgS zs p) most k pos n = none ∧ most < (nmZ zs most (p + pos) n).2) ∨ ∃ v, numP (dgS zs p) most k pos n = some v ∧ nmZ zs most (p + pos) n = (dgZ zs p, v) ∧ v ≤ most
  | 0, pos, n, h1, h2, h3, h4, h5 => by
    have hle := dgZ_le hp
    refine .inr ⟨n, rfl, ?_, h3⟩
    have e : p + pos = dgZ zs p := by omega
    rw [e]
    refine nmZ_stop (fun hq => ?_)
    have := dgZ_out hq.1
    rw [this] at hq
    cases hq.2.1
  | k + 1, pos, n, h1, h2, h3, h4, h5 => by
    have hle := dgZ_le hp
    have hd := dgZ_in (zs := zs) (p := p) (j := p + pos) (by omega) (by omega)
    have hb := dgS_at hz hp (j := pos) (by omega)
    have hr := dgt_rng hd
    have hgo := nmZ_go (zs := zs) (most := most) (i := p + pos) (n := n) ⟨by omega, hd, h3⟩
    rw [hgo]
    unfold numP
    rw [hb, hd, if_neg (by simp), if_neg (fun hq => by have := h4 hq.1; omega)]
    by_cases hbig : most < n * 10 + (zs[p + pos]?.getD 0 - 48)
    · rw [if_pos hbig]
      refine .inl ⟨rfl, ?_⟩
      rw [nmZ_stop (fun hq => by have := hq.2.2; omega)]
      exact hbig
    · rw [if_neg hbig]
      refine num_same hz hp hm h0 k (pos + 1) _ (by omega) (by omega) (by omega) (fun _ => ?_) (by omega)
      by_cases hpz : pos = 0
      · subst hpz
        have := h5 rfl
        simp only [Nat.add_zero] at hr ⊢
        omega
      · have := h4 (by omega); omega
theorem numD_is {zs : List Int} {p : Nat} {most : Int} (hz : Mt.By zs) (hp : p ≤ zs.length) (hm : 0 ≤ most) : numD zs p most = (numV (dgS zs p) most).map fun n => (n, dgZ zs p) := by
  have hle := dgZ_le hp
  have hs := dgS_size hp
  by_cases hm0 : dgZ zs p = p
  · have e1 : nmZ zs most p 0 = (p, 0) := by
      refine nmZ_stop (fun hq => ?_)
      have := dgZ_out (zs := zs) (p := p) (by omega)
      rw [hm0] at this
      rw [this] at hq
      cases hq.2.1
    unfold numD numV
    rw [e1, if_pos (.inl rfl), if_pos (by omega)]
    rfl
  · have hV : numV (dgS zs p) most = numP (dgS zs p) most (dgZ zs p - p) 0 0 := by unfold numV; rw [if_neg (by omega), hs]
    rw [hV]
    by_cases h48 : zs[p]?.getD 0 = 48
    · have hd := dgZ_in (zs := zs) (p := p) (j := p) (Nat.le_refl _) (by omega)
      have e1 := nmZ_go (zs := zs) (most := most) (i := p) (n := 0) ⟨by omega, hd, hm⟩
      have hb := dgS_at hz hp (j := 0) (by omega)
      simp only [Nat.add_zero] at hb
      rw [h48] at e1
      have e0 : (0 : Int) * 10 + (48 - 48) = 0 := by omega
      rw [e0] at e1
      by_cases hone : dgZ zs p = p + 1
      · have e2 : nmZ zs most (p + 1) 0 = (p + 1, 0) := by
          refine nmZ_stop (fun hq => ?_)
          have := dgZ_out (zs := zs) (p := p) (by omega)
          rw [hone] at this
          rw [this] at hq
          cases hq.2.1
        have hn : ¬ ((p + 1 = p) ∨ most < 0 ∨ (zs[p]?.getD 0 = 48 ∧ p + 1 < p + 1) ∨ (p + 1 < zs.length ∧ dgt (zs[p + 1]?.getD 0) = true)) := by
          intro hq
          rcases hq with hq | hq | hq | hq
          · omega
          · omega
          · omega
          · have := dgZ_out (zs := zs) (p := p) (by omega)
            rw [hone, hq.2] at this
            cases this
        unfold numD
        rw [e1, e2, if_neg hn, hone, show p + 1 - p = 1 by omega]
        unfold numP
        rw [hb, h48, if_neg (by decide), if_neg (by omega), if_neg (by omega)]
        rfl
      · have e2 := nuE_ge zs most (zs.length - (p + 2)) (p + 2) (0 * 10 + (zs[p + 1]?.getD 0 - 48))
        have hd1 := dgZ_in (zs := zs) (p := p) (j := p + 1) (by omega) (by omega)
        have e3 := nmZ_go (zs := zs) (most := most) (i := p + 1) (n := 0) ⟨by omega, hd1, hm⟩
        have e4 : p + 2 ≤ (nmZ zs most p 0).1 := by rw [e1, e3]; exact e2
        unfold numD
        rw [if_pos (.inr (.inr (.inl ⟨h48, by omega⟩))), show dgZ zs p - p = (dgZ zs p - p - 2) + 1 + 1 by omega]
        unfold numP
        rw [hb, h48, if_neg (by decide), if_neg (by omega), if_neg (by omega), e0]
        have hb1 := dgS_at hz hp (j := 1) (by omega)
        have : numP (dgS zs p) most (dgZ zs p - p - 2 + 1) (0 + 1) 0 = none := by
          unfold numP
          rw [show 0 + 1 = 1 from rfl, hb1, hd1, if_neg (by simp), if_pos ⟨by omega, rfl⟩]
        rw [this]
        rfl
    · have := num_same hz hp hm h48 (dgZ zs p - p) 0 0 (by omega) (Int.le_refl _) hm (by omega) (fun _ => rfl)
      simp only [Nat.add_zero] at this
      rcases this with ⟨a1, a2⟩ | ⟨v, a1, a2, a3⟩
      · unfold numD
        rw [a1, if_pos (.inr (.inl a2))]
        rfl
      · unfold numD
        rw [a1, a2, if_neg]
        · rfl
        · intro hq
          rcases hq with hq | hq | hq | hq
          · exact hm0 hq
          · omega
          · exact h48 hq.1
          · have := dgZ_out hq.1
            rw [this] at hq
            cases hq.2


theorem Rd.cellAt {n₀ : Nat} {A : World} {bb off cp : Nat} {zs : List Int} (h : Rd n₀ A (.slice (some ⟨bb, off, none⟩) zs.length cp) zs) (i : Nat) (hi : i < zs.length) : A.cell? ⟨bb, off + i, none⟩ = some (.int .u8 (zs[i]?.getD 0)) := by
  rcases h with ⟨a, c, e, hz, _⟩ | ⟨b', o', c', e, _, _, _, _, hc⟩
  · rw [hz] at hi; simp at hi
  · simp at e
    obtain ⟨⟨rfl, rfl⟩, rfl⟩ := e
    exact hc i hi
theorem By_at {zs : List Int} (hz : Mt.By zs) (i : Nat) : 0 ≤ zs[i]?.getD 0 ∧ zs[i]?.getD 0 ≤ 255 := by
  cases h : zs[i]? with
  | none => simp
  | some v => exact hz v (List.mem_of_getElem? h)

set_option maxHeartbeats 8000000 in
theorem rnumber_any (bb off cp n₀ : Nat) (zs : List Int) (hz : Mt.By zs) (p : Nat) (most : Int) (w : World) (hI : Rd n₀ w (.slice (some ⟨bb, off, none⟩) zs.length cp) zs) (hl : zs.length ≤ 1000000) (hp : p ≤ zs.length) (hm : 0 ≤ most ∧ most ≤ 1000000) :
    Calls Tryz.prog 33 #[.slice (some ⟨bb, off, none⟩) zs.length cp, .int .i64 (p : Int), .int .i64 most] w fun e w' => e = .returned (.tuple #[.int .i64 (((numD zs p most).map Prod.fst).getD 0), .int .i64 ((((numD zs p most).map Prod.snd).getD p : Nat) : Int), .bool (numD zs p most).isSome]) ∧ w' = w := by
  have HC := hide (fun i (hi : i < zs.length) => hI.cellAt i hi)
  have HZ := hide (By_at hz)
  obtain ⟨hm1, hm2⟩ := hm
  have g1 : (zs.length : Int) ≤ 1000000 := by omega
  have g2 : (p : Int) ≤ 1000000 := by omega
  clear hI hz
  generalize hnd : numD zs p most = o at *
  have HND := hide hnd
  clear hnd
  go_enter Tryz.func33, Tryz.ntmps33
  go_wp2_with fail
  go_loopw [9, 10] (fun nv iv wr => ∃ (i : Nat) (n : Int), p ≤ i ∧ i ≤ zs.length ∧ nv = .int .i64 n ∧ iv = .int .i64 (i : Int) ∧ 0 ≤ n ∧ n ≤ 10000009 ∧ wr = w ∧ nmZ zs most i n = nmZ zs most p 0) (fun _ iv _ => zs.length - (intOf iv).toNat)
  case atStart => exact ⟨p, 0, Nat.le_refl _, hp, rfl, rfl, by omega, by omega, rfl, rfl⟩
  case round =>
    obtain ⟨i, n, hi1, hi2, rfl, rfl, hn1, hn2, rfl, hnm⟩ := hrel
    have HNM := hide hnm
    clear hnm
    have g3 : (i : Int) ≤ 1000000 := by omega
    by_cases hgo : i < zs.length ∧ dgt (zs[i]?.getD 0) = true ∧ n ≤ most
    · obtain ⟨q1, q2, q3⟩ := hgo
      have HGO := hide (nmZ_go ⟨q1, q2, q3⟩)
      have q1' : (i : Int) < (zs.length : Int) := by omega
      have hcell := HC.out i q1
      have hr := dgt_rng q2
      obtain ⟨r1, r2⟩ := hr
      have hby := HZ.out i
      clear q2
      generalize zs[i]?.getD 0 = c at *
      obtain ⟨b1, b2⟩ := hby
      go_wp2_with fail
      go_roundw
      case rel => exact ⟨i + 1, n * 10 + (c - 48), by omega, by omega, by first | rfl | (congr 1; omega), by simp, by omega, by omega, by first | trivial | rfl, by rw [← HGO.out]; exact HNM.out⟩
      case measure => simp [intOf]; omega
    · have HSP := hide (nmZ_stop hgo)
      have hNZ : nmZ zs most p 0 = (i, n) := by rw [← HNM.out]; exact HSP.out
      have HND2 : Hid (o = if i = p ∨ most < n ∨ (zs[p]?.getD 0 = 48 ∧ p + 1 < i) ∨ (i < zs.length ∧ dgt (zs[i]?.getD 0) = true) then none else some (n, i)) := by show _ = _; rw [← HND.out]; unfold numD; rw [hNZ]
      clear hNZ HSP HNM HND
      have hx : ¬ i < zs.length ∨ (i < zs.length ∧ zs[i]?.getD 0 < 48) ∨ (i < zs.length ∧ 48 ≤ zs[i]?.getD 0 ∧ 57 < zs[i]?.getD 0) ∨ (i < zs.length ∧ dgt (zs[i]?.getD 0) = true ∧ most < n) := by
        by_cases h1 : i < zs.length
        · cases h2 : dgt (zs[i]?.getD 0) with
          | true => exact .inr (.inr (.inr ⟨h1, rfl, by by_cases h3 : n ≤ most; (· exact absurd ⟨h1, h2, h3⟩ hgo); (· omega)⟩))
          | false =>
            unfold dgt at h2
            simp at h2
            omega
        · exact .inl h1
      clear hgo
      rcases hx with hX | ⟨hX, hX2⟩ | ⟨hX, hX2, hX3⟩ | ⟨hX, hX2, hX3⟩
      · have x1 : ¬ (i : Int) < (zs.length : Int) := by omega
        have HNG : Hid (¬ (i < zs.length ∧ dgt (zs[i]?.getD 0) = true)) := fun hq => hX hq.1
        rcases (show i = p ∨ (i ≠ p ∧ most < n) ∨ (i ≠ p ∧ n ≤ most ∧ zs[p]?.getD 0 = 48 ∧ p + 1 < i) ∨ (i ≠ p ∧ n ≤ most ∧ zs[p]?.getD 0 = 48 ∧ ¬ p + 1 < i) ∨ (i ≠ p ∧ n ≤ most ∧ zs[p]?.getD 0 ≠ 48) by omega) with hA | ⟨hA, hB⟩ | ⟨hA, hB, hC, hD⟩ | ⟨hA, hB, hC, hD⟩ | ⟨hA, hB, hC⟩
        · have HNO : Hid (o = none) := by show _ = _; rw [HND2.out, if_pos (.inl hA)]
          have f1 : ((i : Int) == (p : Int)) = true := by simp [hA]
          clear hA
          go_wp2_with fail
          refine bodyPost_ret (v := .tuple #[.int .i64 0, .int .i64 (p : Int), .bool false]) (by simp [results, Tryz.results33, go_sem]) rfl ?_
          exact ⟨by rw [HNO.out]; rfl, rfl⟩
        · have HNO : Hid (o = none) := by show _ = _; rw [HND2.out, if_pos (.inr (.inl hB))]
          have f1 : ((i : Int) == (p : Int)) = false := by rw [beq_eq_false_iff_ne]; omega
          clear hA
          go_wp2_with fail
          refine bodyPost_ret (v := .tuple #[.int .i64 0, .int .i64 (p : Int), .bool false]) (by simp [results, Tryz.results33, go_sem]) rfl ?_
          exact ⟨by rw [HNO.out]; rfl, rfl⟩
        · have HNO : Hid (o = none) := by show _ = _; rw [HND2.out, if_pos (.inr (.inr (.inl ⟨hC, hD⟩)))]
          have f1 : ((i : Int) == (p : Int)) = false := by rw [beq_eq_false_iff_ne]; omega
          have f2 : ¬ most < n := by omega
          have f3 : (zs[p]?.getD 0 == 48) = true := by simp [hC]
          have f4 : (p : Int) + 1 < (i : Int) := by omega
          have cp0 := HC.out p (by omega)
          have hpl : (p : Int) < (zs.length : Int) := by omega
          generalize zs[p]?.getD 0 = c0 at *
          clear hA hC hD
          go_wp2_with fail
          refine bodyPost_ret (v := .tuple #[.int .i64 0, .int .i64 (p : Int), .bool false]) (by simp [results, Tryz.results33, go_sem]) rfl ?_
          exact ⟨by rw [HNO.out]; rfl, rfl⟩
        · first
          | (exfalso; omega)
          | (have HNO : Hid (o = some (n, i)) := by show _ = _; rw [HND2.out, if_neg (fun hq => by rcases hq with hq | hq | hq | hq; (· omega); (· omega); (· omega); (· exact HNG.out hq))]
             have f1 : ((i : Int) == (p : Int)) = false := by rw [beq_eq_false_iff_ne]; omega
             have f2 : ¬ most < n := by omega
             have f3 : (zs[p]?.getD 0 == 48) = true := by simp [hC]
             have f4 : ¬ (p : Int) + 1 < (i : Int) := by omega
             have cp0 := HC.out p (by omega)
             have hpl : (p : Int) < (zs.length : Int) := by omega
             generalize zs[p]?.getD 0 = c0 at *
             clear hA hC hD
             go_wp2_with fail
             refine bodyPost_ret (v := .tuple #[.int .i64 n, .int .i64 (i : Int), .bool true]) (by simp [results, Tryz.results33, go_sem]) rfl ?_
             exact ⟨by rw [HNO.out]; rfl, rfl⟩)
        · first
          | (exfalso; omega)
          | (have HNO : Hid (o = some (n, i)) := by show _ = _; rw [HND2.out, if_neg (fun hq => by rcases hq with hq | hq | hq | hq; (· omega); (· omega); (· exact hC hq.1); (· exact HNG.out hq))]
             have f1 : ((i : Int) == (p : Int)) = false := by rw [beq_eq_false_iff_ne]; omega
             have f2 : ¬ most < n := by omega
             have f3 : (zs[p]?.getD 0 == 48) = false := by rw [beq_eq_false_iff_ne]; exact hC
             have cp0 := HC.out p (by omega)
             have hpl : (p : Int) < (zs.length : Int) := by omega
             generalize zs[p]?.getD 0 = c0 at *
             clear hA hC
             go_wp2_with fail
             refine bodyPost_ret (v := .tuple #[.int .i64 n, .int .i64 (i : Int), .bool true]) (by simp [results, Tryz.results33, go_sem]) rfl ?_
             exact ⟨by rw [HNO.out]; rfl, rfl⟩)
      · have x1 : (i : Int) < (zs.length : Int) := by omega
        have HNG : Hid (¬ (i < zs.length ∧ dgt (zs[i]?.getD 0) = true)) := fun hq => by have := dgt_rng hq.2; omega
        have ci := HC.out i hX
        have x2 : ¬ 48 ≤ zs[i]?.getD 0 := by omega
        clear hX2
        generalize zs[i]?.getD 0 = cc at *
        rcases (show i = p ∨ (i ≠ p ∧ most < n) ∨ (i ≠ p ∧ n ≤ most ∧ zs[p]?.getD 0 = 48 ∧ p + 1 < i) ∨ (i ≠ p ∧ n ≤ most ∧ zs[p]?.getD 0 = 48 ∧ ¬ p + 1 < i) ∨ (i ≠ p ∧ n ≤ most ∧ zs[p]?.getD 0 ≠ 48) by omega) with hA | ⟨hA, hB⟩ | ⟨hA, hB, hC, hD⟩ | ⟨hA, hB, hC, hD⟩ | ⟨hA, hB, hC⟩
        · have HNO : Hid (o = none) := by show _ = _; rw [HND2.out, if_pos (.inl hA)]
          have f1 : ((i : Int) == (p : Int)) = true := by simp [hA]
          clear hA
          go_wp2_with fail
          refine bodyPost_ret (v := .tuple #[.int .i64 0, .int .i64 (p : Int), .bool false]) (by simp [results, Tryz.results33, go_sem]) rfl ?_
          exact ⟨by rw [HNO.out]; rfl, rfl⟩
        · have HNO : Hid (o = none) := by show _ = _; rw [HND2.out, if_pos (.inr (.inl hB))]
          have f1 : ((i : Int) == (p : Int)) = false := by rw [beq_eq_false_iff_ne]; omega
          clear hA
          go_wp2_with fail
          refine bodyPost_ret (v := .tuple #[.int .i64 0, .int .i64 (p : Int), .bool false]) (by simp [results, Tryz.results33, go_sem]) rfl ?_
          exact ⟨by rw [HNO.out]; rfl, rfl⟩
        · have HNO : Hid (o = none) := by show _ = _; rw [HND2.out, if_pos (.inr (.inr (.inl ⟨hC, hD⟩)))]
          have f1 : ((i : Int) == (p : Int)) = false := by rw [beq_eq_false_iff_ne]; omega
          have f2 : ¬ most < n := by omega
          have f3 : (zs[p]?.getD 0 == 48) = true := by simp [hC]
          have f4 : (p : Int) + 1 < (i : Int) := by omega
          have cp0 := HC.out p (by omega)
          have hpl : (p : Int) < (zs.length : Int) := by omega
          generalize zs[p]?.getD 0 = c0 at *
          clear hA hC hD
          go_wp2_with fail
          refine bodyPost_ret (v := .tuple #[.int .i64 0, .int .i64 (p : Int), .bool false]) (by simp [results, Tryz.results33, go_sem]) rfl ?_
          exact ⟨by rw [HNO.out]; rfl, rfl⟩
        · first
          | (exfalso; omega)
          | (have HNO : Hid (o = some (n, i)) := by show _ = _; rw [HND2.out, if_neg (fun hq => by rcases hq with hq | hq | hq | hq; (· omega); (· omega); (· omega); (· exact HNG.out hq))]
             have f1 : ((i : Int) == (p : Int)) = false := by rw [beq_eq_false_iff_ne]; omega
             have f2 : ¬ most < n := by omega
             have f3 : (zs[p]?.getD 0 == 48) = true := by simp [hC]
             have f4 : ¬ (p : Int) + 1 < (i : Int) := by omega
             have cp0 := HC.out p (by omega)
             have hpl : (p : Int) < (zs.length : Int) := by omega
             generalize zs[p]?.getD 0 = c0 at *
             clear hA hC hD
             go_wp2_with fail
             refine bodyPost_ret (v := .tuple #[.int .i64 n, .int .i64 (i : Int), .bool true]) (by simp [results, Tryz.results33, go_sem]) rfl ?_
             exact ⟨by rw [HNO.out]; rfl, rfl⟩)
        · first
          | (exfalso; omega)
          | (have HNO : Hid (o = some (n, i)) := by show _ = _; rw [HND2.out, if_neg (fun hq => by rcases hq with hq | hq | hq | hq; (· omega); (· omega); (· exact hC hq.1); (· exact HNG.out hq))]
             have f1 : ((i : Int) == (p : Int)) = false := by rw [beq_eq_false_iff_ne]; omega
             have f2 : ¬ most < n := by omega
             have f3 : (zs[p]?.getD 0 == 48) = false := by rw [beq_eq_false_iff_ne]; exact hC
             have cp0 := HC.out p (by omega)
             have hpl : (p : Int) < (zs.length : Int) := by omega
             generalize zs[p]?.getD 0 = c0 at *
             clear hA hC
             go_wp2_with fail
             refine bodyPost_ret (v := .tuple #[.int .i64 n, .int .i64 (i : Int), .bool true]) (by simp [results, Tryz.results33, go_sem]) rfl ?_
             exact ⟨by rw [HNO.out]; rfl, rfl⟩)
      · have x1 : (i : Int) < (zs.length : Int) := by omega
        have HNG : Hid (¬ (i < zs.length ∧ dgt (zs[i]?.getD 0) = true)) := fun hq => by have := dgt_rng hq.2; omega
        have ci := HC.out i hX
        have x3 : ¬ zs[i]?.getD 0 ≤ 57 := by omega
        generalize zs[i]?.getD 0 = cc at *
        rcases (show i = p ∨ (i ≠ p ∧ most < n) ∨ (i ≠ p ∧ n ≤ most ∧ zs[p]?.getD 0 = 48 ∧ p + 1 < i) ∨ (i ≠ p ∧ n ≤ most ∧ zs[p]?.getD 0 = 48 ∧ ¬ p + 1 < i) ∨ (i ≠ p ∧ n ≤ most ∧ zs[p]?.getD 0 ≠ 48) by omega) with hA | ⟨hA, hB⟩ | ⟨hA, hB, hC, hD⟩ | ⟨hA, hB, hC, hD⟩ | ⟨hA, hB, hC⟩
        · have HNO : Hid (o = none) := by show _ = _; rw [HND2.out, if_pos (.inl hA)]
          have f1 : ((i : Int) == (p : Int)) = true := by simp [hA]
          clear hA
          go_wp2_with fail
          refine bodyPost_ret (v := .tuple #[.int .i64 0, .int .i64 (p : Int), .bool false]) (by simp [results, Tryz.results33, go_sem]) rfl ?_
          exact ⟨by rw [HNO.out]; rfl, rfl⟩
        · have HNO : Hid (o = none) := by show _ = _; rw [HND2.out, if_pos (.inr (.inl hB))]
          have f1 : ((i : Int) == (p : Int)) = false := by rw [beq_eq_false_iff_ne]; omega
          clear hA
          go_wp2_with fail
          refine bodyPost_ret (v := .tuple #[.int .i64 0, .int .i64 (p : Int), .bool false]) (by simp [results, Tryz.results33, go_sem]) rfl ?_
          exact ⟨by rw [HNO.out]; rfl, rfl⟩
        · have HNO : Hid (o = none) := by show _ = _; rw [HND2.out, if_pos (.inr (.inr (.inl ⟨hC, hD⟩)))]
          have f1 : ((i : Int) == (p : Int)) = false := by rw [beq_eq_false_iff_ne]; omega
          have f2 : ¬ most < n := by omega
          have f3 : (zs[p]?.getD 0 == 48) = true := by simp [hC]
          have f4 : (p : Int) + 1 < (i : Int) := by omega
          have cp0 := HC.out p (by omega)
          have hpl : (p : Int) < (zs.length : Int) := by omega
          generalize zs[p]?.getD 0 = c0 at *
          clear hA hC hD
          go_wp2_with fail
          refine bodyPost_ret (v := .tuple #[.int .i64 0, .int .i64 (p : Int), .bool false]) (by simp [results, Tryz.results33, go_sem]) rfl ?_
          exact ⟨by rw [HNO.out]; rfl, rfl⟩
        · first
          | (exfalso; omega)
          | (have HNO : Hid (o = some (n, i)) := by show _ = _; rw [HND2.out, if_neg (fun hq => by rcases hq with hq | hq | hq | hq; (· omega); (· omega); (· omega); (· exact HNG.out hq))]
             have f1 : ((i : Int) == (p : Int)) = false := by rw [beq_eq_false_iff_ne]; omega
             have f2 : ¬ most < n := by omega
             have f3 : (zs[p]?.getD 0 == 48) = true := by simp [hC]
             have f4 : ¬ (p : Int) + 1 < (i : Int) := by omega
             have cp0 := HC.out p (by omega)
             have hpl : (p : Int) < (zs.length : Int) := by omega
             generalize zs[p]?.getD 0 = c0 at *
             clear hA hC hD
             go_wp2_with fail
             refine bodyPost_ret (v := .tuple #[.int .i64 n, .int .i64 (i : Int), .bool true]) (by simp [results, Tryz.results33, go_sem]) rfl ?_
             exact ⟨by rw [HNO.out]; rfl, rfl⟩)
        · first
          | (exfalso; omega)
          | (have HNO : Hid (o = some (n, i)) := by show _ = _; rw [HND2.out, if_neg (fun hq => by rcases hq with hq | hq | hq | hq; (· omega); (· omega); (· exact hC hq.1); (· exact HNG.out hq))]
             have f1 : ((i : Int) == (p : Int)) = false := by rw [beq_eq_false_iff_ne]; omega
             have f2 : ¬ most < n := by omega
             have f3 : (zs[p]?.getD 0 == 48) = false := by rw [beq_eq_false_iff_ne]; exact hC
             have cp0 := HC.out p (by omega)
             have hpl : (p : Int) < (zs.length : Int) := by omega
             generalize zs[p]?.getD 0 = c0 at *
             clear hA hC
             go_wp2_with fail
             refine bodyPost_ret (v := .tuple #[.int .i64 n, .int .i64 (i : Int), .bool true]) (by simp [results, Tryz.results33, go_sem]) rfl ?_
             exact ⟨by rw [HNO.out]; rfl, rfl⟩)
      · have x1 : (i : Int) < (zs.length : Int) := by omega
        have ci := HC.out i hX
        have hr := dgt_rng hX2
        obtain ⟨r1, r2⟩ := hr
        have x4 : ¬ n ≤ most := by omega
        generalize zs[i]?.getD 0 = cc at *
        by_cases hA : i = p
        · have HNO : Hid (o = none) := by show _ = _; rw [HND2.out, if_pos (.inl hA)]
          have f1 : ((i : Int) == (p : Int)) = true := by simp [hA]
          clear hA hX2
          go_wp2_with fail
          refine bodyPost_ret (v := .tuple #[.int .i64 0, .int .i64 (p : Int), .bool false]) (by simp [results, Tryz.results33, go_sem]) rfl ?_
          exact ⟨by rw [HNO.out]; rfl, rfl⟩
        · have HNO : Hid (o = none) := by show _ = _; rw [HND2.out, if_pos (.inr (.inl hX3))]
          have f1 : ((i : Int) == (p : Int)) = false := by rw [beq_eq_false_iff_ne]; omega
          clear hA hX2
          go_wp2_with fail
          refine bodyPost_ret (v := .tuple #[.int .i64 0, .int .i64 (p : Int), .bool false]) (by simp [results, Tryz.results33, go_sem]) rfl ?_
          exact ⟨by rw [HNO.out]; rfl, rfl⟩
end Go.Proofs.YtibjgaelaijgpaaGreatDoor

/- The document's digits and addresses, as lines have them. -/
namespace Go.Proofs.YtibjgaelaijgpaaGreatDoor
open Go.RowKit Go.Shelf
set_option maxRecDepth 100000
set_option linter.unusedVariables false
set_option linter.unusedSimpArgs false

/-- A number as the document writes it. -/
def TDigsAt (n : Nat) : Prop := ∀ w : World, Calls Tryz.prog 44 #[.int .i64 (n : Int)] w fun e w' => e = .returned (.string (decB n)) ∧ Later w w'

set_option maxRecDepth 100000 in
set_option maxHeartbeats 8000000 in
theorem tdigits_step (n : Nat) (hn : n ≤ 9223372036854775807) (hi : 10 ≤ n → TDigsAt (n / 10)) : TDigsAt n := by
  intro w
  have hn' : (n : Int) ≤ 9223372036854775807 := by omega
  by_cases h10 : n < 10
  · have h1 : (n : Int) < 10 := by omega
    have HV := hide (decB_small h10)
    go_enter Tryz.func44, Tryz.ntmps44
    have hcv := conv_rd 23 9 5 Tryz.underlying23 Tryz.underlying5 Tryz.underlying9 (rd_one w (48 + (n : Int)))
    generalize hrs : strOfNums [48 + (n : Int)] = rs at *
    go_wp2_with fail
    go_ret
    exact ⟨by rw [HV.out]; rfl, later_allocR _ _⟩
  · have h1 : ¬ (n : Int) < 10 := by omega
    have HV := hide (decB_big (n := n) (by omega))
    have HI := hide (hi (by omega))
    have hds : (decB (n / 10)).size ≤ 20 := decB_len _ (by omega)
    go_enter Tryz.func44, Tryz.ntmps44
    go_upto_region 3 with fail
    refine anyR_begin (R := Later) Later.pre Later.drew 11 rfl (by kernel_rfl) (fun V0 hV0 => ?_)
    refine anyR_val Later.pre 0 rfl (by kernel_rfl) (by kernel_rfl) (by kernel_rfl) (fun _ _ _ _ h => h) rfl ?_; apply Exists.intro; refine ⟨fun v1 hv1 => ?_, ?_⟩; (· (go_simp; rfl)); simp only [Act.put, List.setIfInBounds_toArray, List.set_cons_zero, List.set_cons_succ]
    refine anyR_val Later.pre 3 rfl (by kernel_rfl) (by kernel_rfl) (by kernel_rfl) (fun _ _ _ _ h => h) rfl ?_; apply Exists.intro; refine ⟨fun v1 hv1 => ?_, ?_⟩; (· (go_simp; rfl)); simp only [Act.put, List.setIfInBounds_toArray, List.set_cons_zero, List.set_cons_succ]
    refine anyR_val Later.pre 1 rfl (by kernel_rfl) (by kernel_rfl) (by kernel_rfl) (fun _ _ _ _ h => h) rfl ?_; apply Exists.intro; refine ⟨fun v1 hv1 => ?_, ?_⟩; (· (go_simp; rfl)); simp only [Act.put, List.setIfInBounds_toArray, List.set_cons_zero, List.set_cons_succ]
    refine anyR_val Later.pre 4 rfl (by kernel_rfl) (by kernel_rfl) (by kernel_rfl) (fun _ _ _ _ h => h) rfl ?_; apply Exists.intro; refine ⟨fun v1 hv1 => ?_, ?_⟩; (· (go_simp; rfl)); simp only [Act.put, List.setIfInBounds_toArray, List.set_cons_zero, List.set_cons_succ]
    have e1 : IntKind.i64.wrap ((n : Int) / 10) = ((n / 10 : Nat) : Int) := by
      have h : (n : Int) / 10 = ((n / 10 : Nat) : Int) := by omega
      rw [h]
      exact wrI (by omega) (by omega)
    have e2 : (n : Int).tmod 10 = ((n % 10 : Nat) : Int) := by rw [Int.tmod_eq_emod_of_nonneg (by omega)]; omega
    simp only [e1, e2]
    clear e1 e2
    have hm9 : n % 10 ≤ 9 := by omega
    generalize n % 10 = r at *
    generalize n / 10 = q at *
    have hm9' : (r : Int) ≤ 9 := by omega
    refine anyR_take Later.pre 2 (.string (decB q)) rfl (by kernel_rfl) (by kernel_rfl) (by kernel_rfl) (fun _ _ _ h => h) rfl (fun u hu => goes_call 44 #[.int .i64 (q : Int)] (by go_simp) (HI.out u)) ?_
    simp only [Act.put, List.setIfInBounds_toArray, List.set_cons_zero, List.set_cons_succ]
    refine anyR_val Later.pre 5 rfl (by kernel_rfl) (by kernel_rfl) (by kernel_rfl) (fun _ _ _ _ h => h) rfl ?_; apply Exists.intro; refine ⟨fun v1 hv1 => ?_, ?_⟩; (· (go_simp; rfl)); simp only [Act.put, List.setIfInBounds_toArray, List.set_cons_zero, List.set_cons_succ]
    refine anyR_val Later.pre 6 rfl (by kernel_rfl) (by kernel_rfl) (by kernel_rfl) (fun _ _ _ _ h => h) rfl ?_; apply Exists.intro; refine ⟨fun v1 hv1 => ?_, ?_⟩; (· (go_simp; rfl)); simp only [Act.put, List.setIfInBounds_toArray, List.set_cons_zero, List.set_cons_succ]
    simp only [wrI (x := 48 + (r : Int)) (by omega) (by omega), wrB (x := 48 + (r : Int)) (by omega) (by omega)]
    refine anyR_one 7 rfl (by kernel_rfl) rfl (fun V1 hV1 => ?_)
    unfold Oper.wp
    go_simp
    have l2 := later_allocR V1 (.cells #[.int .u8 (48 + (r : Int))] 5)
    have HR := hide (rd_one V1 (48 + (r : Int)))
    refine ⟨l2, ?_⟩
    change wpAnyR _ _ _ _ _ _ _ _ (V1.alloc (.cells #[.int .u8 (48 + (r : Int))] 5))
    generalize V1.alloc (.cells #[.int .u8 (48 + (r : Int))] 5) = V2 at *
    have qc : ∀ u, Later V2 u → (convert 23 9 (.slice (some ⟨V1.heap.size, 0, none⟩) 1 1)).run Tryz.prog u = .ok (.string (strOfNums [48 + (r : Int)])) u := fun u hu => conv_rd 23 9 5 Tryz.underlying23 Tryz.underlying5 Tryz.underlying9 (HR.out.later hu)
    have hss : (strOfNums [48 + (r : Int)]).size = 1 := strOfNums_size _
    have hss2 : (strOfNums [48 + (r : Int)]).size ≤ 1 := by omega
    clear hss
    generalize strOfNums [48 + (r : Int)] = rs at *
    generalize V1.heap.size = g1 at *
    generalize decB q = dq at *
    refine anyR_val Later.pre 8 rfl (by kernel_rfl) (by kernel_rfl) (by kernel_rfl) (fun _ _ _ _ h => h) rfl ?_; apply Exists.intro; refine ⟨fun v1 hv1 => ?_, ?_⟩; (· (go_simp; rfl)); simp only [Act.put, List.setIfInBounds_toArray, List.set_cons_zero, List.set_cons_succ]
    clear qc
    refine anyR_val Later.pre 9 rfl (by kernel_rfl) (by kernel_rfl) (by kernel_rfl) (fun _ _ _ _ h => h) rfl ⟨.string (dq ++ rs), fun v1 hv1 => (by go_simp; omega), ?_⟩; simp only [Act.put, List.setIfInBounds_toArray, List.set_cons_zero, List.set_cons_succ]
    refine anyR_val Later.pre 10 rfl (by kernel_rfl) (by kernel_rfl) (by kernel_rfl) (fun _ _ _ _ h => h) rfl ?_; apply Exists.intro; refine ⟨fun v1 hv1 => ?_, ?_⟩; (· (go_simp; rfl)); simp only [Act.put, List.setIfInBounds_toArray, List.set_cons_zero, List.set_cons_succ]
    refine anyR_done (by kernel_rfl) (fun V9 hV9 => ?_)
    have L9 : Later w V9 := hV0.trans (hV1.trans (l2.trans hV9))
    go_wp2_with fail
    go_ret
    exact ⟨by rw [HV.out]; rfl, L9⟩
theorem tdigits_any (n : Nat) (hn : n ≤ 9223372036854775807) : TDigsAt n := by
  induction n using Nat.strongRecOn with
  | ind n ih => exact tdigits_step n hn (fun h => ih (n / 10) (by omega) (by omega))

theorem tand255 {x : Int} (h₀ : 0 ≤ x) (h₁ : x < 4294967296) : bits .and .u32 x 255 = x % 256 := by first | exact bits_mask .u32 32 (by decide) wraps_u32 8 (by decide) x h₀ h₁ | go_bits2
theorem tdigI (z : Int) (h : 0 ≤ z ∧ z ≤ 65535) (w : World) : Calls Tryz.prog 44 #[.int .i64 z] w fun e w' => e = .returned (.string (decB z.toNat)) ∧ Later w w' := by
  have := tdigits_any z.toNat (by omega) w
  rwa [Int.toNat_of_nonneg h.1] at this

set_option maxRecDepth 100000 in
set_option maxHeartbeats 4000000 in
theorem tdotted_any (a : Int) (h : 0 ≤ a ∧ a ≤ 4294967295) (w : World) :
    Calls Tryz.prog 29 #[.int .u32 a, .string tDot] w fun e w' => e = .returned (.string (adB a)) ∧ Later w w' := by
  obtain ⟨h0, h1⟩ := h
  have HV := hide (adB_form a)
  have s1 := decB_size (a / 16777216).toNat (by omega)
  have s2 := decB_size (a / 65536 % 256).toNat (by omega)
  have s3 := decB_size (a / 256 % 256).toNat (by omega)
  have s4 := decB_size (a % 256).toNat (by omega)
  have H1 := hide (fun w => tdigI (a / 16777216) (by omega) w)
  have H2 := hide (fun w => tdigI (a / 65536 % 256) (by omega) w)
  have H3 := hide (fun w => tdigI (a / 256 % 256) (by omega) w)
  have H4 := hide (fun w => tdigI (a % 256) (by omega) w)
  generalize decB (a / 16777216).toNat = d1 at *
  generalize decB (a / 65536 % 256).toNat = d2 at *
  generalize decB (a / 256 % 256).toNat = d3 at *
  generalize decB (a % 256).toNat = d4 at *
  have m2 : bits .and .u32 (a / 65536) 255 = a / 65536 % 256 := tand255 (by omega) (by omega)
  have m3 : bits .and .u32 (a / 256) 255 = a / 256 % 256 := tand255 (by omega) (by omega)
  have m4 : a.tmod 256 = a % 256 := Int.tmod_eq_emod_of_nonneg h0
  have e1 : ByteArray.size tDot = 1 := rfl
  have b2 : 0 ≤ a / 65536 % 256 ∧ a / 65536 % 256 ≤ 255 := by omega
  have b3 : 0 ≤ a / 256 % 256 ∧ a / 256 % 256 ≤ 255 := by omega
  have b4 : 0 ≤ a % 256 ∧ a % 256 ≤ 255 := by omega
  go_enter Tryz.func29, Tryz.ntmps29
  go_wp2_with fail
  refine (H1.out w).mono ?_
  rintro e w1 ⟨rfl, l1⟩
  go_wp2_with fail
  refine (H2.out w1).mono ?_
  rintro e w2 ⟨rfl, l2⟩
  go_wp2_with fail
  refine (H3.out w2).mono ?_
  rintro e w3 ⟨rfl, l3⟩
  go_wp2_with fail
  refine (H4.out w3).mono ?_
  rintro e w4 ⟨rfl, l4⟩
  go_wp2_with fail
  go_ret
  refine ⟨?_, Later.trans l1 (l2.trans (l3.trans l4))⟩
  rw [HV.out]
  show Ending.returned (.string (d1 ++ tDot ++ d2 ++ tDot ++ d3 ++ tDot ++ d4)) = _
  simp only [ByteArray.append_assoc]

set_option maxHeartbeats 4000000 in
theorem rconn_any (l : ByteArray) (a : Int) (h : 0 ≤ a ∧ a ≤ 4294967295) (w : World) :
    Calls Tryz.prog 30 #[.string l, .int .u32 a] w fun e w' => e = .returned (.bool (eqS l (cnB ++ adB a))) ∧ Later w w' := by
  have HD := hide (fun W => tdotted_any a h W)
  have hs := adB_size a h
  have HQ : Hid ((l.toList == (⟨#[99, 61, 73, 78, 32, 73, 80, 52, 32]⟩ ++ adB a : ByteArray).toList) = eqS l (cnB ++ adB a)) := str_beq l (cnB ++ adB a)
  generalize adB a = ad at *
  have e9 : ByteArray.size ⟨#[99, 61, 73, 78, 32, 73, 80, 52, 32]⟩ = 9 := rfl
  go_enter Tryz.func30, Tryz.ntmps30
  go_wp2_with fail
  refine (HD.out w).mono ?_
  rintro e w1 ⟨rfl, l1⟩
  have hq := HQ.out
  go_wp2_with fail
  go_ret
  exact ⟨rfl, l1⟩
end Go.Proofs.YtibjgaelaijgpaaGreatDoor

/- The document's find: the first place of a text in another one. -/
namespace Go.Proofs.YtibjgaelaijgpaaGreatDoor
open Go.RowKit Go.Shelf
set_option maxRecDepth 100000
set_option linter.unusedVariables false
set_option linter.unusedSimpArgs false

theorem occ_ext (s t : ByteArray) (j : Nat) (hj : j + t.size ≤ s.size) : Lib.occAt s.data.toList t.data.toList j = eqS (s.extract j (j + t.size)) t := by
  unfold Lib.occAt eqS
  rw [ba_ext_list, List.drop_take, Nat.add_sub_cancel_left, Bool.eq_iff_iff, List.isPrefixOf_iff_prefix, beq_iff_eq, List.prefix_iff_eq_take, ← ba_len]
  exact eq_comm
/-- Not there ahead. -/
def NoT (s t : ByteArray) (i : Nat) : Prop := ∀ j, j < i → j + t.size ≤ s.size → eqS (s.extract j (j + t.size)) t = false
theorem NoT.succ {s t : ByteArray} {i : Nat} (h : NoT s t i) (hi : eqS (s.extract i (i + t.size)) t = false) : NoT s t (i + 1) := fun j hj hl => by
  rcases Nat.lt_or_eq_of_le (Nat.lt_succ_iff.1 hj) with q | rfl
  · exact h j q hl
  · exact hi
theorem cutT_yes {s t : ByteArray} {i : Nat} (hi : i + t.size ≤ s.size) (ht : eqS (s.extract i (i + t.size)) t = true) (hn : NoT s t i) : cutF s t = true ∧ cutA s t = s.extract 0 i ∧ cutZ s t = s.extract (i + t.size) s.size := by
  have es : (s.extract 0 i).size = i := by rw [ByteArray.size_extract]; omega
  have e := congrArg (fun x : ByteArray => x.data.toList) (eqS_iff.1 ht)
  rw [ba_ext_list, List.drop_take, Nat.add_sub_cancel_left] at e
  refine cut_uniq ?_ ?_
  · apply ba_ext
    rw [ba_app, ba_app, ba_ext_list, ba_ext_list, List.drop_zero, ← e, ba_len s, List.take_length, ← List.drop_drop, List.take_append_drop, List.take_append_drop]
  · rw [es]
    exact fun j hj => by rw [occ_ext s t j (by omega)]; exact hn j hj (by omega)
theorem cutT_no {s t : ByteArray} {i : Nat} (hi : s.size < i + t.size) (hn : NoT s t i) : cutF s t = false := by
  cases hf : cutF s t with
  | false => rfl
  | true =>
    have hs := congrArg ByteArray.size (cut_yes hf)
    rw [ByteArray.size_append, ByteArray.size_append] at hs
    have ho : Lib.occAt s.data.toList t.data.toList (cutA s t).size = true := by
      rcases cut_spec s t with ⟨_, he, _⟩ | ⟨hf', _⟩
      · unfold Lib.occAt
        conv => lhs; arg 2; rw [he]
        rw [ba_len, List.drop_left, List.isPrefixOf_iff_prefix]
        exact List.prefix_append _ _
      · rw [hf] at hf'; cases hf'
    rw [occ_ext s t _ (by omega), hn _ (by omega) (by omega)] at ho
    cases ho
/-- Where a text stands first. -/
def fnI (s t : ByteArray) : Int := if cutF s t = true then ((cutA s t).size : Int) else -1

set_option maxHeartbeats 8000000 in
theorem rfind_any (s t : ByteArray) (w : World) (hs : s.size ≤ 1000000) (ht : t.size ≤ 1000000) :
    Calls Tryz.prog 16 #[.string s, .string t] w fun e w' => e = .returned (.int .i64 (fnI s t)) ∧ w' = w := by
  have hs' : (s.size : Int) ≤ 1000000 := by omega
  have ht' : (t.size : Int) ≤ 1000000 := by omega
  go_enter Tryz.func16, Tryz.ntmps16
  go_upto_region 2 with fail
  go_loopw [5] (fun iv wr => ∃ i : Nat, i ≤ s.size + 1 ∧ iv = .int .i64 (i : Int) ∧ wr = w ∧ Hid (NoT s t i)) (fun iv _ => s.size + 1 - (intOf iv).toNat)
  case atStart => exact ⟨0, by omega, rfl, rfl, fun j hj => by omega⟩
  case round =>
    obtain ⟨i, hi, rfl, rfl, HN⟩ := hrel
    by_cases hlt : i + t.size ≤ s.size
    · have hlt1 : (i : Int) + (t.size : Int) ≤ (s.size : Int) := by omega
      have hb := str_beq (s.extract i (i + t.size)) t
      have HS : Hid (eqS (s.extract i (i + t.size)) t = false → NoT s t (i + 1)) := fun h => HN.out.succ h
      have HY : Hid (eqS (s.extract i (i + t.size)) t = true → fnI s t = (i : Int)) := fun h => by
        obtain ⟨c1, c2, _⟩ := cutT_yes hlt h HN.out
        unfold fnI
        rw [if_pos c1, c2, ByteArray.size_extract]
        omega
      generalize eqS (s.extract i (i + t.size)) t = b at *
      cases b with
      | true =>
        have hv := hide (HY.out rfl)
        clear HS HY HN
        go_wp2_with fail
        go_ret
        exact ⟨by rw [hv.out]; rfl, rfl⟩
      | false =>
        have hv := hide (HS.out rfl)
        clear HS HY HN
        go_wp2_with fail
        go_roundw
        case rel => exact ⟨i + 1, by omega, by go_num, by first | trivial | rfl, hv⟩
        case measure => simp [intOf]; omega
    · have hnl : ¬ (i : Int) + (t.size : Int) ≤ (s.size : Int) := by omega
      have hv : Hid (fnI s t = -1) := by (show _ = _); unfold fnI; rw [if_neg (by rw [cutT_no (by omega) HN.out]; simp)]
      clear HN
      go_wp2_with fail
      go_ret
      exact ⟨by rw [hv.out]; rfl, rfl⟩
end Go.Proofs.YtibjgaelaijgpaaGreatDoor

/- The first two signs of a kind in a text: mathematics. -/
namespace Go.Proofs.YtibjgaelaijgpaaGreatDoor
open Go.RowKit Go.Shelf
set_option maxRecDepth 100000
set_option linter.unusedVariables false
set_option linter.unusedSimpArgs false

theorem occ2 (s : List UInt8) (a b : UInt8) (j : Nat) : Lib.occAt s [a, b] j = true ↔ s[j]? = some a ∧ s[j + 1]? = some b := by
  have e0 : s[j]? = (s.drop j)[0]? := by rw [List.getElem?_drop]; rfl
  have e1 : s[j + 1]? = (s.drop j)[1]? := by rw [List.getElem?_drop]
  unfold Lib.occAt
  rw [e0, e1]
  rcases s.drop j with _ | ⟨x, _ | ⟨y, t⟩⟩
  · simp [List.isPrefixOf]
  · simp [List.isPrefixOf]
  · show ((a == x) && ((b == y) && true)) = true ↔ _
    rw [Bool.and_eq_true, Bool.and_true, beq_iff_eq, beq_iff_eq]
    simp only [List.getElem?_cons_zero, List.getElem?_cons_succ, Option.some.injEq]
    constructor <;> rintro ⟨rfl, rfl⟩ <;> exact ⟨rfl, rfl⟩
theorem bAt_of (s : ByteArray) (j : Nat) (c : UInt8) (h : j < s.size) : s.data.toList[j]? = some c ↔ bAt s j = (c.toNat : Int) := by
  have h' : j < s.data.toList.length := by rw [Array.length_toList]; exact h
  have e : s.get! j = s.data.toList[j] := by
    simp only [ByteArray.get!]
    rw [getElem!_pos s.data j h]
    simp
  rw [List.getElem?_eq_getElem h']
  unfold bAt
  rw [e]
  constructor
  · intro h; cases h; rfl
  · intro h; congr 1; exact UInt8.toNat_inj.1 (by omega)
/-- No such two ahead. -/
def No2 (s : ByteArray) (a b : Int) (i : Nat) : Prop := ∀ j, j < i → j + 1 < s.size → ¬ (bAt s j = a ∧ bAt s (j + 1) = b)
theorem No2.succ {s : ByteArray} {a b : Int} {i : Nat} (h : No2 s a b i) (hi : ¬ (bAt s i = a ∧ bAt s (i + 1) = b)) : No2 s a b (i + 1) := fun j hj hl => by
  rcases Nat.lt_or_eq_of_le (Nat.lt_succ_iff.1 hj) with q | rfl
  · exact h j q hl
  · exact hi
theorem occ2_no {s : ByteArray} {a b : UInt8} {j : Nat} (h : j + 1 < s.size → ¬ (bAt s j = (a.toNat : Int) ∧ bAt s (j + 1) = (b.toNat : Int))) : Lib.occAt s.data.toList [a, b] j = false := by
  cases hc : Lib.occAt s.data.toList [a, b] j with
  | false => rfl
  | true =>
    obtain ⟨h1, h2⟩ := (occ2 _ _ _ _).1 hc
    have hl : j + 1 < s.size := by
      have := (List.getElem?_eq_some_iff.1 h2).1
      rwa [Array.length_toList] at this
    exact absurd ⟨(bAt_of s j a (by omega)).1 h1, (bAt_of s (j + 1) b hl).1 h2⟩ (h hl)
theorem cut2_yes {s : ByteArray} {a b : UInt8} {i : Nat} (hi : i + 1 < s.size) (h1 : bAt s i = (a.toNat : Int)) (h2 : bAt s (i + 1) = (b.toNat : Int)) (hn : No2 s (a.toNat : Int) (b.toNat : Int) i) :
    cutF s ⟨#[a, b]⟩ = true ∧ cutA s ⟨#[a, b]⟩ = s.extract 0 i ∧ cutZ s ⟨#[a, b]⟩ = s.extract (i + 2) s.size := by
  have hl : s.data.toList.length = s.size := by rw [Array.length_toList]; rfl
  have g1 := (bAt_of s i a (by omega)).2 h1
  have g2 := (bAt_of s (i + 1) b hi).2 h2
  have es : (s.extract 0 i).size = i := by rw [ByteArray.size_extract]; omega
  refine cut_uniq ?_ ?_
  · apply ba_ext
    rw [ba_app, ba_app, ba_ext_list, ba_ext_list, List.drop_zero]
    have e1 : s.data.toList.take s.size = s.data.toList := by rw [← hl, List.take_length]
    rw [e1]
    have q1 : i < s.data.toList.length := by omega
    have q2 : i + 1 < s.data.toList.length := by omega
    rw [List.getElem?_eq_getElem q1] at g1
    rw [List.getElem?_eq_getElem q2] at g2
    conv => lhs; rw [← List.take_append_drop i s.data.toList, List.drop_eq_getElem_cons q1, List.drop_eq_getElem_cons q2]
    cases g1
    cases g2
    rfl
  · rw [es]
    exact fun j hj => occ2_no (fun hl => hn j hj hl)
theorem cut2_no {s : ByteArray} {a b : UInt8} {i : Nat} (hi : s.size ≤ i + 1) (hn : No2 s (a.toNat : Int) (b.toNat : Int) i) : cutF s ⟨#[a, b]⟩ = false := by
  cases hf : cutF s ⟨#[a, b]⟩ with
  | false => rfl
  | true =>
    have ho : Lib.occAt s.data.toList [a, b] (cutA s ⟨#[a, b]⟩).size = true := by
      rcases cut_spec s ⟨#[a, b]⟩ with ⟨_, he, _⟩ | ⟨hf', _⟩
      · unfold Lib.occAt
        conv => lhs; arg 2; rw [he]
        rw [ba_len, List.drop_left, List.isPrefixOf_iff_prefix]
        exact List.prefix_append _ _
      · rw [hf] at hf'; cases hf'
    rw [occ2_no (fun hl => hn _ (by omega) hl)] at ho
    cases ho
end Go.Proofs.YtibjgaelaijgpaaGreatDoor

/- The document's cut: a line, and what is behind its end. -/
namespace Go.Proofs.YtibjgaelaijgpaaGreatDoor
open Go.RowKit Go.Shelf
set_option maxRecDepth 100000
set_option linter.unusedVariables false
set_option linter.unusedSimpArgs false

/-- What the document's cut tells. -/
def RcQ (n₀ : Nat) (s : ByteArray) (W : World) (v : Value) : Prop :=
  (cutF s crB = true ∧ ∃ vb, v = .tuple #[.string (cutA s crB), vb, .bool true] ∧ Rd n₀ W vb (nmsB (cutZ s crB))) ∨
  (cutF s crB = false ∧ v = .tuple #[.string ⟨#[]⟩, .slice none 0 0, .bool false])
theorem str_take (zb : List Int) (i : Nat) (hi : i ≤ zb.length) : (strOfNums zb).extract 0 i = strOfNums (zb.take i) := by
  apply ba_ext
  rw [ba_ext_list, strOfNums_data, strOfNums_data, List.drop_zero, List.map_take]
theorem str_drop (zb : List Int) (i : Nat) : (strOfNums zb).extract i (strOfNums zb).size = strOfNums (zb.drop i) := by
  apply ba_ext
  rw [ba_ext_list, strOfNums_data, strOfNums_data, strOfNums_size, ← List.map_take, List.take_length, List.map_drop]
theorem by_drop {zb : List Int} (hy : Mt.By zb) (i : Nat) : Mt.By (zb.drop i) := fun z hz => hy z (List.mem_of_mem_drop hz)

set_option maxRecDepth 100000 in
set_option maxHeartbeats 8000000 in
theorem rcut_any (n₀ : Nat) (sb : Value) (zb : List Int) (w : World) (hn₀ : n₀ ≤ w.heap.size) (hB : Rd n₀ w sb zb) (hy : Mt.By zb) (hz : zb.length ≤ 1000000) :
    Calls Tryz.prog 43 #[sb] w fun e w' => Later w w' ∧ ∃ v, e = .returned v ∧ RcQ n₀ (strOfNums zb) w' v := by
  obtain ⟨ba, cp, rfl, hc1, hc2⟩ := hB.slice
  have hss : (strOfNums zb).size = zb.length := strOfNums_size zb
  go_enter Tryz.func43, Tryz.ntmps43
  go_upto_region 2 with fail
  go_loopw [5] (fun iv wr => ∃ i : Nat, i ≤ zb.length ∧ iv = .int .i64 (i : Int) ∧ wr = w ∧ Hid (No2 (strOfNums zb) 13 10 i)) (fun iv _ => zb.length - (intOf iv).toNat)
  case atStart => exact ⟨0, by omega, rfl, rfl, fun j hj => by omega⟩
  case round =>
    obtain ⟨i, hi, rfl, rfl, HN⟩ := hrel
    by_cases hlt : i + 1 < zb.length
    · have hlt' : (i : Int) + 1 < (zb.length : Int) := by omega
      have hb0 := strOf_at zb hy i (by omega)
      have hb1 := strOf_at zb hy (i + 1) hlt
      have hB' := hB
      rcases hB with ⟨_, _, _, rfl, _⟩ | ⟨b, off, cap, e, hne, hl, hm, hbn, hc⟩
      · simp at hlt
      cases e
      have d0 : wr.cell? ⟨b, off + i, none⟩ = some (.int .u8 (zb[i]?.getD 0)) := by rw [hc i (by omega), List.getElem?_eq_getElem (by omega)]
      have d1 : wr.cell? ⟨b, off + (i + 1), none⟩ = some (.int .u8 (zb[i + 1]?.getD 0)) := by rw [hc (i + 1) hlt, List.getElem?_eq_getElem hlt]
      generalize zb[i]?.getD 0 = x0 at *
      generalize zb[i + 1]?.getD 0 = x1 at *
      have HC : Hid (x0 = 13 → x1 = 10 → cutF (strOfNums zb) crB = true ∧ cutA (strOfNums zb) crB = strOfNums (zb.take i) ∧ cutZ (strOfNums zb) crB = strOfNums (zb.drop (i + 2))) := fun h0 h1 => by
        have := cut2_yes (s := strOfNums zb) (a := 13) (b := 10) (i := i) (by omega) (by rw [hb0, h0]; rfl) (by rw [hb1, h1]; rfl) HN.out
        rw [str_take zb i (by omega), str_drop] at this
        exact this
      have HS : Hid (¬ (x0 = 13 ∧ x1 = 10) → No2 (strOfNums zb) 13 10 (i + 1)) := fun h => HN.out.succ (by rw [hb0, hb1]; exact h)
      clear hb0 hb1 hc HN
      by_cases h0 : x0 = 13
      · by_cases h1 : x1 = 10
        · have HCC := hide (HC.out h0 h1)
          have HT := hide (hB'.take i (by omega))
          have HD := hide (Rd.drop (i + 2) (by omega) hB')
          have hby := hide (by_drop hy (i + 2))
          subst h0 h1
          clear HC HS
          have hcp1 : (i : Int) ≤ (cp : Int) := by omega
          have hcp2 : (i : Int) + 2 ≤ (zb.length : Int) := by omega
          have hcp3 : (cp : Int) ≤ 9223372036854775807 := by omega
          have hkw : Hid (IntKind.i64.wrap ((i : Int) + 2) = ((i + 2 : Nat) : Int)) := by (show _ = _); rw [IntKind.wrap_i64]; omega
          have hk2 : i + 2 ≤ zb.length := by omega
          generalize hkk : i + 2 = kk at *
          clear hkk
          have hk3 : (kk : Int) ≤ (zb.length : Int) := by omega
          have hk4 : (kk : Int) ≤ 9223372036854775807 := by omega
          go_upto_region 5 with fail
          clear d0 d1
          have hcv := fun W (l : Later wr W) => conv_rd 23 9 5 Tryz.underlying23 Tryz.underlying5 Tryz.underlying9 (HT.out.below (l.mono hn₀))
          refine anyR_begin (R := Later) Later.pre Later.drew 11 rfl (by kernel_rfl) (fun V0 hV0 => ?_)
          have qcv : ∀ v, Later V0 v → (convert 23 9 (.slice (some ⟨b, off, none⟩) i cp)).run Tryz.prog v = .ok (.string (strOfNums (zb.take i))) v := fun v hv => hcv v (hV0.trans hv)
          clear hcv
          refine anyR_val Later.pre 0 rfl (by kernel_rfl) (by kernel_rfl) (by kernel_rfl) (fun _ _ _ _ h => h) rfl ?_; apply Exists.intro; refine ⟨fun v1 hv1 => ?_, ?_⟩; (· (go_simp; rfl)); simp only [Act.put, List.setIfInBounds_toArray, List.set_cons_zero, List.set_cons_succ]
          refine anyR_val Later.pre 1 rfl (by kernel_rfl) (by kernel_rfl) (by kernel_rfl) (fun _ _ _ _ h => h) rfl ?_; apply Exists.intro; refine ⟨fun v1 hv1 => ?_, ?_⟩; (· (go_simp; rfl)); simp only [Act.put, List.setIfInBounds_toArray, List.set_cons_zero, List.set_cons_succ]
          refine anyR_val Later.pre 2 rfl (by kernel_rfl) (by kernel_rfl) (by kernel_rfl) (fun _ _ _ _ h => h) rfl ?_; apply Exists.intro; refine ⟨fun v1 hv1 => ?_, ?_⟩; (· (go_simp; rfl)); simp only [Act.put, List.setIfInBounds_toArray, List.set_cons_zero, List.set_cons_succ]
          refine anyR_val Later.pre 3 rfl (by kernel_rfl) (by kernel_rfl) (by kernel_rfl) (fun _ _ _ _ h => h) rfl ?_; apply Exists.intro; refine ⟨fun v1 hv1 => ?_, ?_⟩; (· (go_simp; rfl)); simp only [Act.put, List.setIfInBounds_toArray, List.set_cons_zero, List.set_cons_succ]
          refine anyR_val Later.pre 4 rfl (by kernel_rfl) (by kernel_rfl) (by kernel_rfl) (fun _ _ _ _ h => h) rfl ?_; apply Exists.intro; refine ⟨fun v1 hv1 => ?_, ?_⟩; (· (go_simp; rfl)); simp only [Act.put, List.setIfInBounds_toArray, List.set_cons_zero, List.set_cons_succ]
          refine anyR_val Later.pre 5 rfl (by kernel_rfl) (by kernel_rfl) (by kernel_rfl) (fun _ _ _ _ h => h) rfl ?_; apply Exists.intro; refine ⟨fun v1 hv1 => ?_, ?_⟩; (· (go_simp; rfl)); simp only [Act.put, List.setIfInBounds_toArray, List.set_cons_zero, List.set_cons_succ]
          refine anyR_val Later.pre 6 rfl (by kernel_rfl) (by kernel_rfl) (by kernel_rfl) (fun _ _ _ _ h => h) rfl ⟨.int .i64 (kk : Int), fun v1 hv1 => (by go_simp; exact hkw.out), ?_⟩
          simp only [Act.put, List.setIfInBounds_toArray, List.set_cons_zero, List.set_cons_succ]
          refine anyR_val Later.pre 7 rfl (by kernel_rfl) (by kernel_rfl) (by kernel_rfl) (fun _ _ _ _ h => h) rfl ⟨sliced (some ⟨b, off, none⟩) kk zb.length cp 1, fun v1 hv1 => (by go_simp; all_goals first | rfl | (intro _; omega) | omega), ?_⟩
          simp only [Act.put, List.setIfInBounds_toArray, List.set_cons_zero, List.set_cons_succ]
          generalize sliced (some ⟨b, off, none⟩) kk zb.length cp 1 = vv at *
          obtain ⟨a9, c9, rfl, _, _⟩ := HD.out.slice
          generalize hn9 : (zb.drop kk).length = n9 at *
          clear hn9
          refine anyR_val Later.pre 8 rfl (by kernel_rfl) (by kernel_rfl) (by kernel_rfl) (fun _ _ _ _ h => h) rfl ?_; apply Exists.intro; refine ⟨fun v1 hv1 => ?_, ?_⟩; (· (go_simp; rfl)); simp only [Act.put, List.setIfInBounds_toArray, List.set_cons_zero, List.set_cons_succ]
          refine anyR_val Later.pre 9 rfl (by kernel_rfl) (by kernel_rfl) (by kernel_rfl) (fun _ _ _ _ h => h) rfl ?_; apply Exists.intro; refine ⟨fun v1 hv1 => ?_, ?_⟩; (· (go_simp; rfl)); simp only [Act.put, List.setIfInBounds_toArray, List.set_cons_zero, List.set_cons_succ]
          refine anyR_val Later.pre 10 rfl (by kernel_rfl) (by kernel_rfl) (by kernel_rfl) (fun _ _ _ _ h => h) rfl ?_; apply Exists.intro; refine ⟨fun v1 hv1 => ?_, ?_⟩; (· (go_simp; rfl)); simp only [Act.put, List.setIfInBounds_toArray, List.set_cons_zero, List.set_cons_succ]
          refine anyR_done (by kernel_rfl) (fun V9 hV9 => ?_)
          have RD := hide (HD.out.below ((hV0.trans hV9).mono hn₀))
          clear qcv HD
          go_wp2_with fail
          exact bodyPost_ret (v := .tuple #[.string (strOfNums (zb.take i)), .slice a9 n9 c9, .bool true]) (by simp [results, Tryz.results43, go_sem]) rfl ⟨hV0.trans hV9, _, rfl, .inl ⟨HCC.out.1, _, by rw [HCC.out.2.1], by rw [HCC.out.2.2, nmsB_str _ hby.out]; exact RD.out⟩⟩
        · have HSS := hide (HS.out (fun h => h1 h.2))
          have t1 : (x1 == 10) = false := by simp [h1]
          subst h0
          clear HC HS h1
          go_wp2_with fail
          go_roundw
          case rel => exact ⟨i + 1, by omega, by go_num, by first | trivial | rfl, HSS⟩
          case measure => simp [intOf]; omega
      · have HSS := hide (HS.out (fun h => h0 h.1))
        have t0 : (x0 == 13) = false := by simp [h0]
        clear HC HS h0
        go_wp2_with fail
        go_roundw
        case rel => exact ⟨i + 1, by omega, by go_num, by first | trivial | rfl, HSS⟩
        case measure => simp [intOf]; omega
    · have hnl : ¬ (i : Int) + 1 < (zb.length : Int) := by omega
      have HCN := hide (cut2_no (s := strOfNums zb) (a := 13) (b := 10) (i := i) (by omega) HN.out)
      go_wp2_with fail
      exact bodyPost_ret (v := .tuple #[.string ⟨#[]⟩, .slice none 0 0, .bool false]) (by simp [results, Tryz.results43, go_sem]) rfl ⟨Later.refl _, _, rfl, .inr ⟨HCN.out, rfl⟩⟩
end Go.Proofs.YtibjgaelaijgpaaGreatDoor

/- A line that names a port, as the document reads it: mathematics. -/
namespace Go.Proofs.YtibjgaelaijgpaaGreatDoor
open Go.RowKit Go.Shelf
set_option maxRecDepth 100000
set_option linter.unusedVariables false
set_option linter.unusedSimpArgs false

theorem bAt_L (l : ByteArray) (j : Nat) (h : j < l.data.toList.length) : bAt l j = ((l.data.toList[j]).toNat : Int) := by
  have h' : j < l.size := by rw [ba_len]; exact h
  exact (bAt_of l j (l.data.toList[j]) h').1 (List.getElem?_eq_getElem h)
theorem cut_empty {s p : ByteArray} (hs : s.size = 0) (hp : p.size ≠ 0) : cutF s p = false := by
  cases hf : cutF s p with
  | false => rfl
  | true =>
    have := congrArg ByteArray.size (cut_yes hf)
    rw [ByteArray.size_append, ByteArray.size_append] at this
    omega
theorem prV_digits {s : ByteArray} {p : Int} (h : prV s = some p) : ∀ u ∈ s.data.toList, dgt (u.toNat : Int) = true := fun u hu => by
  unfold prV at h
  cases hn : numV s 65535 with
  | none => rw [hn] at h; cases h
  | some v =>
    have h1 := (numV_some hn).1
    have hm : (u.toNat : Int) ∈ nmsB s := by unfold nmsB; exact List.mem_map.2 ⟨u, hu, rfl⟩
    rw [h1] at hm
    exact dg_dgt _ _ hm
theorem sp_no_lt {R : List UInt8} (hR : ∀ u ∈ R, ltC (u.toNat : Int) = true) : (32 : UInt8) ∉ R := fun h => by have := hR _ h; revert this; decide +kernel
theorem sp_no_dg {R : List UInt8} (hR : ∀ u ∈ R, dgt (u.toNat : Int) = true) : (32 : UInt8) ∉ R := fun h => by have := hR _ h; revert this; decide +kernel
theorem allN_ltC {s : ByteArray} : allN ltC s = true ↔ (∀ u ∈ s.data.toList, ltC (u.toNat : Int) = true) ∧ s.size ≠ 0 := by
  unfold allN
  rw [Bool.and_eq_true, allB_nms, List.all_eq_true]
  constructor
  · rintro ⟨h1, h2⟩
    exact ⟨fun u hu => h1 _ (by unfold nmsB; exact List.mem_map.2 ⟨u, hu, rfl⟩), by simpa using h2⟩
  · rintro ⟨h1, h2⟩
    refine ⟨fun z hz => ?_, by simpa using h2⟩
    unfold nmsB at hz
    obtain ⟨u, hu, rfl⟩ := List.mem_map.1 hz
    exact h1 u hu
/-- What such a line is made of. -/
theorem md_list {l a b : ByteArray} {p : Int} (h : mdO l = some (a, p, b)) : ∃ R A Z : List UInt8, l.data.toList = 109 :: 61 :: (R ++ 32 :: (A ++ 32 :: Z)) ∧ R ≠ [] ∧ (∀ u ∈ R, ltC (u.toNat : Int) = true) ∧ prV ⟨A.toArray⟩ = some p ∧ a.data.toList = 109 :: 61 :: (R ++ [32]) ∧ b.data.toList = 32 :: Z := by
  unfold mdO at h
  split at h
  · cases h
  rename_i h1
  split at h
  · cases h
  rename_i h2
  cases hp : prV (cutA (cutZ l spB) spB) with
  | none => rw [hp] at h; cases h
  | some q =>
    rw [hp] at h
    simp only at h
    split at h
    · cases h
    rename_i h3
    simp only [Option.some.injEq, Prod.mk.injEq] at h
    obtain ⟨ha, rfl, hb⟩ := h
    have h1' : hpB (cutA l spB) meB = true := by simpa using h1
    have h2' : cutF (cutZ l spB) spB = true := by simpa using h2
    have h3' : allN ltC (tpB (cutA l spB) meB) = true := by simpa using h3
    have hf : cutF l spB = true := by
      cases hf : cutF l spB with
      | true => rfl
      | false => rw [(cut_no hf).2, cut_empty (s := ⟨#[]⟩) rfl (by decide)] at h2'; cases h2'
    have e1 := cut_yes hf
    have e2 := cut_yes h2'
    have h1'' := h1'
    unfold hpB Lib.hasPrefix at h1'
    rw [List.isPrefixOf_iff_prefix] at h1'
    obtain ⟨R, hR⟩ := h1'
    have hR' : (cutA l spB).data.toList = 109 :: 61 :: R := hR.symm
    have ht : (tpB (cutA l spB) meB).data.toList = R := by
      unfold tpB Lib.trimPrefix
      unfold hpB at h1''
      rw [if_pos h1'', hR']
      rfl
    obtain ⟨hl, hn⟩ := allN_ltC.1 h3'
    rw [ht] at hl
    have e3 : (cutZ l spB).data.toList = (cutA (cutZ l spB) spB).data.toList ++ 32 :: (cutZ (cutZ l spB) spB).data.toList := by
      have := congrArg (fun s : ByteArray => s.data.toList) e2
      rw [ba_app, ba_app] at this
      exact this
    refine ⟨R, (cutA (cutZ l spB) spB).data.toList, (cutZ (cutZ l spB) spB).data.toList, ?_, ?_, hl, ?_, ?_, ?_⟩
    · have := congrArg (fun s : ByteArray => s.data.toList) e1
      rw [ba_app, ba_app, hR', e3] at this
      exact this
    · intro hr
      rw [ba_len, ht, hr] at hn
      exact hn rfl
    · have : (⟨(cutA (cutZ l spB) spB).data.toList.toArray⟩ : ByteArray) = cutA (cutZ l spB) spB := ba_ext (by simp)
      rw [this]
      exact hp
    · rw [← ha, ba_app, hR']
      rfl
    · rw [← hb, ba_ext_list, ba_len (cutZ l spB), List.take_length, e3, ba_len (cutA (cutZ l spB) spB), List.drop_left]
/-- What is made so is such a line. -/
theorem md_make {l : ByteArray} {R A Z : List UInt8} {p : Int} (hl : l.data.toList = 109 :: 61 :: (R ++ 32 :: (A ++ 32 :: Z))) (hR0 : R ≠ []) (hR : ∀ u ∈ R, ltC (u.toNat : Int) = true) (hp : prV ⟨A.toArray⟩ = some p) :
    mdO l = some (⟨(109 :: 61 :: (R ++ [32])).toArray⟩, p, ⟨(32 :: Z).toArray⟩) := by
  have hd := prV_digits hp
  simp only at hd
  obtain ⟨c1, c2, c3⟩ := cut_uniq (s := l) (p := spB) (a := ⟨(109 :: 61 :: R).toArray⟩) (z := ⟨(A ++ 32 :: Z).toArray⟩) (ba_ext (by rw [ba_app, ba_app, hl]; simp [spB])) (by
    rw [hl]
    have := noOcc1 (a := 109 :: 61 :: R) (r := 32 :: (A ++ 32 :: Z)) (c := 32) (by
      simp only [List.mem_cons]
      rintro (h | h | h)
      · exact absurd h (by decide)
      · exact absurd h (by decide)
      · exact sp_no_lt hR h)
    have e : ByteArray.size ⟨(109 :: 61 :: R).toArray⟩ = (109 :: 61 :: R).length := by simp [ByteArray.size]
    rw [e]
    simpa [spB] using this)
  obtain ⟨d1, d2, d3⟩ := cut_uniq (s := ⟨(A ++ 32 :: Z).toArray⟩) (p := spB) (a := ⟨A.toArray⟩) (z := ⟨Z.toArray⟩) (ba_ext (by rw [ba_app, ba_app]; simp [spB])) (by
    have := noOcc1 (a := A) (r := 32 :: Z) (c := 32) (sp_no_dg (fun u hu => hd u (by simpa using hu)))
    have e : ByteArray.size ⟨A.toArray⟩ = A.length := by simp [ByteArray.size]
    rw [e]
    simpa [spB] using this)
  have hh : hpB ⟨(109 :: 61 :: R).toArray⟩ meB = true := by
    unfold hpB Lib.hasPrefix
    rw [List.isPrefixOf_iff_prefix]
    exact ⟨R, by simp [meB]⟩
  have ht : tpB ⟨(109 :: 61 :: R).toArray⟩ meB = ⟨R.toArray⟩ := by
    apply ba_ext
    unfold tpB Lib.trimPrefix
    unfold hpB at hh
    rw [if_pos hh]
    simp [meB]
  have ha : allN ltC ⟨R.toArray⟩ = true := allN_ltC.2 ⟨fun u hu => hR u (by simpa using hu), by
    intro h
    have : R.length = 0 := by simpa [ByteArray.size] using h
    exact hR0 (List.eq_nil_of_length_eq_zero this)⟩
  unfold mdO
  rw [c2, c3, if_neg (by rw [hh]; simp), if_neg (by rw [d1]; simp), d2, hp]
  simp only
  rw [ht, if_neg (by rw [ha]; simp)]
  refine congrArg some (Prod.ext ?_ (Prod.ext rfl ?_))
  · apply ba_ext
    show (_ ++ _ : ByteArray).data.toList = _
    rw [ba_app]
    simp [spB]
  · apply ba_ext
    show (ByteArray.extract _ _ _).data.toList = _
    rw [ba_ext_list]
    have e : ByteArray.size ⟨A.toArray⟩ = A.length := by simp [ByteArray.size]
    have e2 : ByteArray.size ⟨(A ++ 32 :: Z).toArray⟩ = (A ++ 32 :: Z).length := by simp [ByteArray.size]
    rw [e, e2]
    simp only [List.take_length, List.drop_left]

/-- How far letters go. -/
def LtS (l : ByteArray) (n : Nat) : Prop := 2 ≤ n ∧ n ≤ l.size ∧ ∀ j, 2 ≤ j → j < n → ltC (bAt l j) = true
theorem LtS.succ {l : ByteArray} {n : Nat} (h : LtS l n) (hn : n < l.size) (hc : ltC (bAt l n) = true) : LtS l (n + 1) := ⟨by have := h.1; omega, by omega, fun j h1 h2 => by
  rcases Nat.lt_or_eq_of_le (Nat.lt_succ_iff.1 h2) with q | rfl
  · exact h.2.2 j h1 q
  · exact hc⟩
theorem nmsB_get (l : ByteArray) (j : Nat) (h : j < l.size) : (nmsB l)[j]?.getD 0 = bAt l j := (nmsB_at l j h).symm
/-- What the document's media tells. -/
def rmV (l : ByteArray) : Option (ByteArray × Int × ByteArray) → Value
  | none => .tuple #[.int .i64 0, .int .i64 0, .int .i64 0, .bool false]
  | some (a, p, b) => .tuple #[.int .i64 p, .int .i64 ((a.size : Nat) : Int), .int .i64 (((l.size - b.size : Nat)) : Int), .bool true]
/-- It begins otherwise. -/
theorem md_begin {l : ByteArray} (h : ¬ (2 ≤ l.size ∧ bAt l 0 = 109 ∧ bAt l 1 = 61)) : mdO l = none := by
  cases hm : mdO l with
  | none => rfl
  | some m =>
    obtain ⟨a, p, b⟩ := m
    obtain ⟨R, A, Z, hl, _⟩ := md_list hm
    have hlen := congrArg List.length hl
    simp only [List.length_cons, List.length_append] at hlen
    refine absurd ⟨by rw [ba_len]; omega, ?_, ?_⟩ h
    · rw [bAt_L l 0 (by omega)]; simp [hl]
    · rw [bAt_L l 1 (by omega)]; simp [hl]
/-- Where its letters and digits end. -/
theorem md_where {l a b : ByteArray} {p : Int} (h : mdO l = some (a, p, b)) {n : Nat} (hn : LtS l n) (hs : n = l.size ∨ ltC (bAt l n) = false) :
    2 < n ∧ n < l.size ∧ bAt l n = 32 ∧ numD (nmsB l) (n + 1) 65535 = some (p, l.size - b.size) ∧ 1 ≤ p ∧ l.size - b.size < l.size ∧ bAt l (l.size - b.size) = 32 ∧ a.size = n + 1 := by
  obtain ⟨R, A, Z, hl, hR0, hR, hp, ha, hb⟩ := md_list h
  have hlen := congrArg List.length hl
  simp only [List.length_cons, List.length_append] at hlen
  have hsz : l.size = R.length + A.length + Z.length + 4 := by rw [ba_len]; omega
  have hRl : 0 < R.length := List.length_pos_iff.2 hR0
  have hbs : b.size = Z.length + 1 := by rw [ba_len, hb]; rfl
  have q1 : ∀ j, 2 ≤ j → j < R.length + 2 → ltC (bAt l j) = true := fun j h1 h2 => by
    rw [bAt_L l j (by omega)]
    have : l.data.toList[j]'(by omega) = R[j - 2]'(by omega) := by
      simp only [hl]
      obtain ⟨k, rfl⟩ : ∃ k, j = k + 2 := ⟨j - 2, by omega⟩
      simp only [List.getElem_cons_succ, Nat.add_sub_cancel]
      rw [List.getElem_append_left (by omega)]
    rw [this]
    exact hR _ (List.getElem_mem _)
  have q2 : bAt l (R.length + 2) = 32 := by
    rw [bAt_L l _ (by omega)]
    have : l.data.toList[R.length + 2]'(by omega) = 32 := by
      simp only [hl, List.getElem_cons_succ]
      rw [List.getElem_append_right (Nat.le_refl _)]
      simp
    rw [this]
    rfl
  have hnn : n = R.length + 2 := by
    rcases Nat.lt_trichotomy n (R.length + 2) with g | g | g
    · rcases hs with hs | hs
      · omega
      · rw [q1 n hn.1 g] at hs; cases hs
    · exact g
    · have := hn.2.2 (R.length + 2) (by omega) g
      rw [q2] at this
      exact absurd this (by decide +kernel)
  have q3 : ∀ j, j < A.length → bAt l (R.length + 3 + j) = ((A[j]!).toNat : Int) := fun j hj => by
    rw [bAt_L l _ (by omega)]
    have : l.data.toList[R.length + 3 + j]'(by omega) = A[j] := by
      simp only [hl, show R.length + 3 + j = R.length + 1 + j + 1 + 1 from by omega, List.getElem_cons_succ]
      rw [List.getElem_append_right (by omega)]
      simp only [show R.length + 1 + j - R.length = j + 1 from by omega, List.getElem_cons_succ]
      rw [List.getElem_append_left hj]
    rw [this, getElem!_pos A j hj]
  have q4 : bAt l (R.length + 3 + A.length) = 32 := by
    rw [bAt_L l _ (by omega)]
    have : l.data.toList[R.length + 3 + A.length]'(by omega) = 32 := by
      simp only [hl, show R.length + 3 + A.length = R.length + 1 + A.length + 1 + 1 from by omega, List.getElem_cons_succ]
      rw [List.getElem_append_right (by omega)]
      simp only [show R.length + 1 + A.length - R.length = A.length + 1 from by omega, List.getElem_cons_succ]
      rw [List.getElem_append_right (Nat.le_refl _)]
      simp
    rw [this]
    rfl
  have hd := prV_digits hp
  simp only at hd
  have hpr := prV_rng _ hp
  have hby := nmsB_by l
  have hzl : (nmsB l).length = l.size := nmsB_len l
  have hdz : dgZ (nmsB l) (R.length + 3) = R.length + 3 + A.length := by
    have hle := dgZ_le (zs := nmsB l) (p := R.length + 3) (by omega)
    rcases Nat.lt_trichotomy (dgZ (nmsB l) (R.length + 3)) (R.length + 3 + A.length) with g | g | g
    · have := dgZ_out (zs := nmsB l) (p := R.length + 3) (by omega)
      rw [nmsB_get l _ (by omega)] at this
      obtain ⟨j, hj⟩ : ∃ j, dgZ (nmsB l) (R.length + 3) = R.length + 3 + j := ⟨_, (Nat.add_sub_cancel' hle.1).symm⟩
      rw [hj, q3 j (by omega), getElem!_pos A j (by omega), hd _ (by simp)] at this
      cases this
    · exact g
    · have := dgZ_in (zs := nmsB l) (p := R.length + 3) (j := R.length + 3 + A.length) (by omega) g
      rw [nmsB_get l _ (by omega), q4] at this
      exact absurd this (by decide +kernel)
  have hdS : dgS (nmsB l) (R.length + 3) = ⟨A.toArray⟩ := by
    unfold dgS
    rw [hdz]
    apply ba_ext
    rw [strOfNums_data, show R.length + 3 + A.length - (R.length + 3) = A.length from by omega]
    have e : (nmsB l).drop (R.length + 3) = (A ++ 32 :: Z).map fun u => (u.toNat : Int) := by
      unfold nmsB
      rw [← List.map_drop, hl]
      congr 1
      simp only [show R.length + 3 = R.length + 1 + 1 + 1 from rfl, List.drop_succ_cons]
      rw [show R.length + 1 = R.length + 1 from rfl, ← List.drop_drop, List.drop_left]
      rfl
    rw [e, List.map_append, List.take_left' (by simp), List.map_map]
    show List.map _ A = A
    have : ∀ u : UInt8, ((fun n : Int => UInt8.ofNat n.toNat) ∘ fun u : UInt8 => (u.toNat : Int)) u = u := fun u => by simp
    rw [List.map_congr_left (fun u _ => this u)]
    simp
  have hnv : numV ⟨A.toArray⟩ 65535 = some p := by
    unfold prV at hp
    cases hv : numV ⟨A.toArray⟩ 65535 with
    | none => rw [hv] at hp; cases hp
    | some v =>
      rw [hv] at hp
      simp only at hp
      split at hp
      · cases hp
      · exact hp
  have hnd : numD (nmsB l) (R.length + 3) 65535 = some (p, R.length + 3 + A.length) := by
    rw [numD_is hby (by omega) (by omega), hdS, hnv, hdz]
    rfl
  rw [hnn]
  have he : l.size - b.size = R.length + 3 + A.length := by omega
  rw [he]
  have has : a.size = R.length + 3 := by rw [ba_len, ha]; simp
  exact ⟨by omega, by omega, q2, hnd, hpr.1, by omega, q4, by omega⟩
/-- What the document finds so is such a line. -/
theorem md_found {l : ByteArray} (h0 : 2 ≤ l.size ∧ bAt l 0 = 109 ∧ bAt l 1 = 61) {n : Nat} (hn : LtS l n) (h2 : 2 < n) (hl : n < l.size) (hsp : bAt l n = 32) {p : Int} {e : Nat} (hd : numD (nmsB l) (n + 1) 65535 = some (p, e)) (hp : p ≠ 0) (he : e < l.size) (hes : bAt l e = 32) :
    mdO l ≠ none := by
  have hzl : (nmsB l).length = l.size := nmsB_len l
  have hlL : l.data.toList.length = l.size := by rw [ba_len]
  rw [numD_is (nmsB_by l) (by omega) (by omega)] at hd
  cases hv : numV (dgS (nmsB l) (n + 1)) 65535 with
  | none => rw [hv] at hd; cases hd
  | some v =>
    rw [hv] at hd
    simp only [Option.map_some, Option.some.injEq, Prod.mk.injEq] at hd
    obtain ⟨rfl, hde⟩ := hd
    have hle := dgZ_le (zs := nmsB l) (p := n + 1) (by omega)
    rw [hde] at hle
    have hdS : dgS (nmsB l) (n + 1) = ⟨((l.data.toList.drop (n + 1)).take (e - (n + 1))).toArray⟩ := by
      unfold dgS
      rw [hde]
      apply ba_ext
      rw [strOfNums_data]
      unfold nmsB
      rw [← List.map_drop, ← List.map_take, List.map_map]
      have : ∀ u : UInt8, ((fun n : Int => UInt8.ofNat n.toNat) ∘ fun u : UInt8 => (u.toNat : Int)) u = u := fun u => by simp
      rw [List.map_congr_left (fun u _ => this u)]
      simp
    have hpv : prV ⟨((l.data.toList.drop (n + 1)).take (e - (n + 1))).toArray⟩ = some v := by
      unfold prV
      rw [← hdS, hv]
      simp [hp]
    have g0 : l.data.toList[0]'(by omega) = 109 := by
      have := h0.2.1; rw [bAt_L l 0 (by omega)] at this; exact UInt8.toNat_inj.1 (by have e : (109 : UInt8).toNat = 109 := rfl; omega)
    have g1 : l.data.toList[1]'(by omega) = 61 := by
      have := h0.2.2; rw [bAt_L l 1 (by omega)] at this; exact UInt8.toNat_inj.1 (by have e : (61 : UInt8).toNat = 61 := rfl; omega)
    have g2 : l.data.toList[n]'(by omega) = 32 := by
      rw [bAt_L l n (by omega)] at hsp; exact UInt8.toNat_inj.1 (by have e : (32 : UInt8).toNat = 32 := rfl; omega)
    have g3 : l.data.toList[e]'(by omega) = 32 := by
      rw [bAt_L l e (by omega)] at hes; exact UInt8.toNat_inj.1 (by have e : (32 : UInt8).toNat = 32 := rfl; omega)
    have hform : l.data.toList = 109 :: 61 :: ((l.data.toList.drop 2).take (n - 2) ++ 32 :: ((l.data.toList.drop (n + 1)).take (e - (n + 1)) ++ 32 :: l.data.toList.drop (e + 1))) := by
      have a1 : l.data.toList = l.data.toList[0]'(by omega) :: l.data.toList[1]'(by omega) :: l.data.toList.drop 2 := by
        conv => lhs; rw [← List.drop_zero (l := l.data.toList), List.drop_eq_getElem_cons (by omega), List.drop_eq_getElem_cons (by omega)]
      have a2 : l.data.toList.drop 2 = (l.data.toList.drop 2).take (n - 2) ++ l.data.toList.drop n := by
        conv => lhs; rw [← List.take_append_drop (n - 2) (l.data.toList.drop 2), List.drop_drop]
        rw [show 2 + (n - 2) = n from by omega]
      have a3 : l.data.toList.drop n = l.data.toList[n]'(by omega) :: l.data.toList.drop (n + 1) := List.drop_eq_getElem_cons (by omega)
      have a4 : l.data.toList.drop (n + 1) = (l.data.toList.drop (n + 1)).take (e - (n + 1)) ++ l.data.toList.drop e := by
        conv => lhs; rw [← List.take_append_drop (e - (n + 1)) (l.data.toList.drop (n + 1)), List.drop_drop]
        rw [show n + 1 + (e - (n + 1)) = e from by omega]
      have a5 : l.data.toList.drop e = l.data.toList[e]'(by omega) :: l.data.toList.drop (e + 1) := List.drop_eq_getElem_cons (by omega)
      rw [g0, g1] at a1
      rw [g2] at a3
      rw [g3] at a5
      conv => lhs; rw [a1, a2, a3, a4, a5]
    rw [md_make hform (by
      intro h
      have := congrArg List.length h
      rw [List.length_take, List.length_drop] at this
      simp at this
      omega) (fun u hu => by
        obtain ⟨j, hj, rfl⟩ := List.getElem_of_mem hu
        rw [List.length_take, List.length_drop] at hj
        have := hn.2.2 (2 + j) (by omega) (by omega)
        rw [bAt_L l (2 + j) (by omega)] at this
        rw [List.getElem_take, List.getElem_drop]
        exact this) hpv]
    simp
end Go.Proofs.YtibjgaelaijgpaaGreatDoor

/- The walk of the document's media. -/
namespace Go.Proofs.YtibjgaelaijgpaaGreatDoor
open Go.RowKit Go.Shelf
set_option maxRecDepth 100000
set_option linter.unusedVariables false
set_option linter.unusedSimpArgs false

theorem ext2 {l : ByteArray} (h2 : 2 ≤ l.size) : ((l.extract 0 2).toList == [109, 61]) = decide (bAt l 0 = 109 ∧ bAt l 1 = 61) := by
  have hl : l.data.toList.length = l.size := by rw [ba_len]
  have b0 := bAt_L l 0 (by omega)
  have b1 := bAt_L l 1 (by omega)
  have e : (l.extract 0 2).toList = [l.data.toList[0]'(by omega), l.data.toList[1]'(by omega)] := by
    rw [ByteArray.toList_eq]
    show (l.extract 0 2).data.toList = _
    rw [ba_ext_list, List.drop_zero]
    have : l.data.toList = l.data.toList[0]'(by omega) :: l.data.toList[1]'(by omega) :: l.data.toList.drop 2 := by
      conv => lhs; rw [← List.drop_zero (l := l.data.toList), List.drop_eq_getElem_cons (by omega), List.drop_eq_getElem_cons (by omega)]
    conv => lhs; rw [this]
    rfl
  rw [e, b0, b1]
  have u : ∀ (x y : UInt8) (k : Nat), y.toNat = k → ((x == y) = decide ((x.toNat : Int) = (k : Int))) := fun x y k hk => by
    rw [Bool.eq_iff_iff, beq_iff_eq, decide_eq_true_eq]
    exact ⟨fun h => by rw [h, hk], fun h => UInt8.toNat_inj.1 (by omega)⟩
  show ((_ == (109 : UInt8)) && ((_ == (61 : UInt8)) && true)) = _
  rw [u _ 109 109 rfl, u _ 61 61 rfl, Bool.and_true]
  simp

set_option maxRecDepth 100000 in
set_option maxHeartbeats 8000000 in
theorem rmedia_any (l : ByteArray) (w : World) (hs : l.size ≤ 100000) :
    Calls Tryz.prog 31 #[.string l] w fun e w' => e = .returned (rmV l (mdO l)) ∧ Later w w' := by
  by_cases h2 : 2 ≤ l.size
  · have hex := ext2 h2
    have hs2 : ¬ (l.size : Int) < 2 := by omega
    have hs3 : (2 : Int) ≤ (l.size : Int) := by omega
    by_cases hb : bAt l 0 = 109 ∧ bAt l 1 = 61
    · have h0 : 2 ≤ l.size ∧ bAt l 0 = 109 ∧ bAt l 1 = 61 := ⟨h2, hb⟩
      rw [decide_eq_true hb] at hex
      generalize hmo : mdO l = mo
      have HMO := hide hmo
      clear hmo hb
      go_enter Tryz.func31, Tryz.ntmps31
      go_upto_region 4 with fail
      clear hex hs2 hs3
      go_loopw [6] (fun av wr => ∃ n : Nat, av = .int .i64 (n : Int) ∧ wr = w ∧ Hid (LtS l n)) (fun av _ => l.size - (intOf av).toNat)
      case atStart => exact ⟨2, rfl, rfl, ⟨Nat.le_refl _, h2, fun j h1 h2 => by omega⟩⟩
      case round =>
        obtain ⟨n, rfl, hwr, HL⟩ := hrel
        subst hwr
        have hnl := HL.out.2.1
        by_cases hlt : n < l.size
        · have hlt1 : (n : Int) < (l.size : Int) := by omega
          have hbg := bAt_get l n hlt
          have HSU : Hid (ltC (bAt l n) = true → LtS l (n + 1)) := fun h => HL.out.succ hlt h
          have HLC : Hid (ltC (bAt l n) = ((decide (97 ≤ bAt l n) && decide (bAt l n ≤ 122)) || (decide (65 ≤ bAt l n) && decide (bAt l n ≤ 90)))) := rfl
          rw [← hbg] at HLC HSU
          have HST0 : Hid (ltC ((((l[n]'hlt).toNat : Nat) : Int)) = false → n = l.size ∨ ltC (bAt l n) = false) := fun h => .inr (by rw [← hbg]; exact h)
          clear hbg
          by_cases a1 : 97 ≤ (((l[n]'hlt).toNat : Nat) : Int)
          · by_cases a2 : (((l[n]'hlt).toNat : Nat) : Int) ≤ 122
            · have HN := hide (HSU.out (by rw [HLC.out]; simp [a1, a2]))
              clear HSU HLC HST0
              go_wp2_with fail
              go_roundw
              case rel => exact ⟨n + 1, by go_num, by first | trivial | rfl, HN⟩
              case measure => simp [intOf]; omega
            · have a3 : 65 ≤ (((l[n]'hlt).toNat : Nat) : Int) := by omega
              have a4 : ¬ (((l[n]'hlt).toNat : Nat) : Int) ≤ 90 := by omega
              have HST := hide (HST0.out (by rw [HLC.out]; simp [a2, a4]))
              clear HSU HLC HST0
              go_upto_region 6 with fail
              clear a1 a2 a3 a4
              have HW : Hid (∀ a p b, mo = some (a, p, b) → 2 < n ∧ n < l.size ∧ bAt l n = 32 ∧ numD (nmsB l) (n + 1) 65535 = some (p, l.size - b.size) ∧ 1 ≤ p ∧ l.size - b.size < l.size ∧ bAt l (l.size - b.size) = 32 ∧ a.size = n + 1) := fun a p b h => md_where (HMO.out.trans h) HL.out HST.out
              have hn2 := HL.out.1
              by_cases c1 : n = 2
              · have HNO : Hid (mo = none) := by
                  (show _ = _)
                  cases hm : mo with
                  | none => rfl
                  | some m => obtain ⟨a, p, b⟩ := m; have := HW.out a p b hm; omega
                have t1 : ((n : Int) == 2) = true := by simp [c1]
                clear c1
                go_wp2_with fail
                refine bodyPost_ret (v := .tuple #[.int .i64 0, .int .i64 0, .int .i64 0, .bool false]) (by simp [results, Tryz.results31, go_sem]) rfl ?_
                exact ⟨by rw [HNO.out]; rfl, Later.refl _⟩
              by_cases c2 : n < l.size
              · have t1 : ((n : Int) == 2) = false := by rw [beq_eq_false_iff_ne]; omega
                have t2 : ¬ (l.size : Int) ≤ (n : Int) := by omega
                have hbg := bAt_get l n c2
                by_cases c3 : bAt l n = 32
                · have t3 : ((((l[n]'c2).toNat : Nat) : Int) != 32) = false := by rw [hbg, c3]; rfl
                  have HMF : Hid (∀ p e, numD (nmsB l) (n + 1) 65535 = some (p, e) → p ≠ 0 → e < l.size → bAt l e = 32 → mo ≠ none) := fun p e hd hp he hes => by rw [← HMO.out]; exact md_found h0 HL.out (by omega) c2 c3 hd hp he hes
                  clear hbg c1
                  go_upto_region 8 with fail
                  clear t1 t2 t3
                  have hG := conv_G wr l (by omega)
                  have hcv := Lib.run_convert_string_bytes wr 9 23 5 l Tryz.underlying9 Tryz.underlying23 Tryz.underlying5
                  have lc := conv_later wr 5 l
                  have hR := hG.rd
                  generalize Lib.bytesWorld wr 5 l = w2 at *
                  generalize grownCap wr l.size 0 5 = gcp at *
                  have HNU := hide (rnumber_any wr.heap.size 0 gcp w2.heap.size (nmsB l) (nmsB_by l) (n + 1) 65535 w2 (by rw [nmsB_len]; exact hR) (by rw [nmsB_len]; omega) (by rw [nmsB_len]; omega) (by omega))
                  rw [nmsB_len] at HNU
                  clear hG hR
                  generalize numD (nmsB l) (n + 1) 65535 = nd at *
                  generalize wr.heap.size = gq at *
                  have q1 : ((n + 1 : Nat) : Int) = (n : Int) + 1 := by omega
                  rw [q1] at HNU
                  clear q1
                  have hnb : (n : Int) + 1 ≤ 9223372036854775807 := by omega
                  go_wp2_with fail
                  refine HNU.out.mono ?_
                  rintro e w3 ⟨rfl, hw3⟩
                  subst hw3
                  clear hcv HNU
                  cases nd with
                  | none =>
                    have HNO : Hid (mo = none) := by
                      (show _ = _)
                      cases hm : mo with
                      | none => rfl
                      | some m => obtain ⟨a, p, b⟩ := m; have := (HW.out a p b hm).2.2.2.1; cases this
                    simp only [Option.map_none, Option.getD_none, Option.isSome_none]
                    go_wp2_with fail
                    refine bodyPost_ret (v := .tuple #[.int .i64 0, .int .i64 0, .int .i64 0, .bool false]) (by simp [results, Tryz.results31, go_sem]) rfl ?_
                    exact ⟨by rw [HNO.out]; rfl, lc⟩
                  | some pe =>
                    obtain ⟨p, e⟩ := pe
                    simp only [Option.map_some, Option.getD_some, Option.isSome_some]
                    have HW2 : Hid (∀ a q b, mo = some (a, q, b) → q = p ∧ l.size - b.size = e ∧ 1 ≤ p ∧ e < l.size ∧ bAt l e = 32 ∧ a.size = n + 1) := fun a q b h => by
                      obtain ⟨_, _, _, g1, g2, g3, g4, g5⟩ := HW.out a q b h
                      simp only [Option.some.injEq, Prod.mk.injEq] at g1
                      obtain ⟨rfl, rfl⟩ := g1
                      exact ⟨rfl, rfl, g2, g3, g4, g5⟩
                    clear HW
                    by_cases d1 : p = 0
                    · have HNO : Hid (mo = none) := by
                        (show _ = _)
                        cases hm : mo with
                        | none => rfl
                        | some m => obtain ⟨a, q, b⟩ := m; have := HW2.out a q b hm; omega
                      subst d1
                      go_wp2_with fail
                      refine bodyPost_ret (v := .tuple #[.int .i64 0, .int .i64 0, .int .i64 0, .bool false]) (by simp [results, Tryz.results31, go_sem]) rfl ?_
                      exact ⟨by rw [HNO.out]; rfl, lc⟩
                    · have f1 : (p == 0) = false := by rw [beq_eq_false_iff_ne]; exact d1
                      by_cases d2 : e < l.size
                      · have f2 : ¬ (l.size : Int) ≤ (e : Int) := by omega
                        have hbe := bAt_get l e d2
                        by_cases d3 : bAt l e = 32
                        · have f3 : ((((l[e]'d2).toNat : Nat) : Int) != 32) = false := by rw [hbe, d3]; rfl
                          have hne := HMF.out p e rfl d1 d2 d3
                          obtain ⟨m, HNO⟩ : ∃ m, Hid (mo = some m) := by
                            cases hm : mo with
                            | none => exact absurd hm hne
                            | some m => exact ⟨m, rfl⟩
                          obtain ⟨a, q, b⟩ := m
                          obtain ⟨g1, g2, _, _, _, g5⟩ := HW2.out a q b HNO.out
                          subst g1
                          have G2 := hide g2
                          have G5 := hide g5
                          clear hne hbe d3 d1 HMF HW2 g2 g5
                          go_wp2_with fail
                          refine bodyPost_ret (v := .tuple #[.int .i64 q, .int .i64 ((n : Int) + 1), .int .i64 (e : Int), .bool true]) (by simp [results, Tryz.results31, go_sem]) rfl ?_
                          exact ⟨by rw [HNO.out]; simp only [rmV]; rw [G2.out, G5.out]; rfl, lc⟩
                        · have HNO : Hid (mo = none) := by
                            (show _ = _)
                            cases hm : mo with
                            | none => rfl
                            | some m => obtain ⟨a, q, b⟩ := m; exact absurd (HW2.out a q b hm).2.2.2.2.1 d3
                          have f3 : ((((l[e]'d2).toNat : Nat) : Int) != 32) = true := by rw [hbe]; simp [d3]
                          clear hbe d3 d1 HMF HW2
                          go_wp2_with fail
                          refine bodyPost_ret (v := .tuple #[.int .i64 0, .int .i64 0, .int .i64 0, .bool false]) (by simp [results, Tryz.results31, go_sem]) rfl ?_
                          exact ⟨by rw [HNO.out]; rfl, lc⟩
                      · have HNO : Hid (mo = none) := by
                          (show _ = _)
                          cases hm : mo with
                          | none => rfl
                          | some m => obtain ⟨a, q, b⟩ := m; exact absurd (HW2.out a q b hm).2.2.2.1 d2
                        have f2 : (l.size : Int) ≤ (e : Int) := by omega
                        clear d1 HMF HW2
                        go_wp2_with fail
                        refine bodyPost_ret (v := .tuple #[.int .i64 0, .int .i64 0, .int .i64 0, .bool false]) (by simp [results, Tryz.results31, go_sem]) rfl ?_
                        exact ⟨by rw [HNO.out]; rfl, lc⟩
                · have HNO : Hid (mo = none) := by
                    (show _ = _)
                    cases hm : mo with
                    | none => rfl
                    | some m => obtain ⟨a, p, b⟩ := m; exact absurd (HW.out a p b hm).2.2.1 c3
                  have t3 : ((((l[n]'c2).toNat : Nat) : Int) != 32) = true := by rw [hbg]; simp [c3]
                  clear hbg c3 c1
                  go_wp2_with fail
                  refine bodyPost_ret (v := .tuple #[.int .i64 0, .int .i64 0, .int .i64 0, .bool false]) (by simp [results, Tryz.results31, go_sem]) rfl ?_
                  exact ⟨by rw [HNO.out]; rfl, Later.refl _⟩
              · have HNO : Hid (mo = none) := by
                  (show _ = _)
                  cases hm : mo with
                  | none => rfl
                  | some m => obtain ⟨a, p, b⟩ := m; exact absurd (HW.out a p b hm).2.1 c2
                have t1 : ((n : Int) == 2) = false := by rw [beq_eq_false_iff_ne]; omega
                have t2 : (l.size : Int) ≤ (n : Int) := by omega
                clear c1
                go_wp2_with fail
                refine bodyPost_ret (v := .tuple #[.int .i64 0, .int .i64 0, .int .i64 0, .bool false]) (by simp [results, Tryz.results31, go_sem]) rfl ?_
                exact ⟨by rw [HNO.out]; rfl, Later.refl _⟩
          · by_cases a3 : 65 ≤ (((l[n]'hlt).toNat : Nat) : Int)
            · by_cases a4 : (((l[n]'hlt).toNat : Nat) : Int) ≤ 90
              · have HN := hide (HSU.out (by rw [HLC.out]; simp [a3, a4]))
                clear HSU HLC HST0
                go_wp2_with fail
                go_roundw
                case rel => exact ⟨n + 1, by go_num, by first | trivial | rfl, HN⟩
                case measure => simp [intOf]; omega
              · have HST := hide (HST0.out (by rw [HLC.out]; simp [a1, a4]))
                clear HSU HLC HST0
                go_upto_region 6 with fail
                clear a1 a3 a4
                have HW : Hid (∀ a p b, mo = some (a, p, b) → 2 < n ∧ n < l.size ∧ bAt l n = 32 ∧ numD (nmsB l) (n + 1) 65535 = some (p, l.size - b.size) ∧ 1 ≤ p ∧ l.size - b.size < l.size ∧ bAt l (l.size - b.size) = 32 ∧ a.size = n + 1) := fun a p b h => md_where (HMO.out.trans h) HL.out HST.out
                have hn2 := HL.out.1
                by_cases c1 : n = 2
                · have HNO : Hid (mo = none) := by
                    (show _ = _)
                    cases hm : mo with
                    | none => rfl
                    | some m => obtain ⟨a, p, b⟩ := m; have := HW.out a p b hm; omega
                  have t1 : ((n : Int) == 2) = true := by simp [c1]
                  clear c1
                  go_wp2_with fail
                  refine bodyPost_ret (v := .tuple #[.int .i64 0, .int .i64 0, .int .i64 0, .bool false]) (by simp [results, Tryz.results31, go_sem]) rfl ?_
                  exact ⟨by rw [HNO.out]; rfl, Later.refl _⟩
                by_cases c2 : n < l.size
                · have t1 : ((n : Int) == 2) = false := by rw [beq_eq_false_iff_ne]; omega
                  have t2 : ¬ (l.size : Int) ≤ (n : Int) := by omega
                  have hbg := bAt_get l n c2
                  by_cases c3 : bAt l n = 32
                  · have t3 : ((((l[n]'c2).toNat : Nat) : Int) != 32) = false := by rw [hbg, c3]; rfl
                    have HMF : Hid (∀ p e, numD (nmsB l) (n + 1) 65535 = some (p, e) → p ≠ 0 → e < l.size → bAt l e = 32 → mo ≠ none) := fun p e hd hp he hes => by rw [← HMO.out]; exact md_found h0 HL.out (by omega) c2 c3 hd hp he hes
                    clear hbg c1
                    go_upto_region 8 with fail
                    clear t1 t2 t3
                    have hG := conv_G wr l (by omega)
                    have hcv := Lib.run_convert_string_bytes wr 9 23 5 l Tryz.underlying9 Tryz.underlying23 Tryz.underlying5
                    have lc := conv_later wr 5 l
                    have hR := hG.rd
                    generalize Lib.bytesWorld wr 5 l = w2 at *
                    generalize grownCap wr l.size 0 5 = gcp at *
                    have HNU := hide (rnumber_any wr.heap.size 0 gcp w2.heap.size (nmsB l) (nmsB_by l) (n + 1) 65535 w2 (by rw [nmsB_len]; exact hR) (by rw [nmsB_len]; omega) (by rw [nmsB_len]; omega) (by omega))
                    rw [nmsB_len] at HNU
                    clear hG hR
                    generalize numD (nmsB l) (n + 1) 65535 = nd at *
                    generalize wr.heap.size = gq at *
                    have q1 : ((n + 1 : Nat) : Int) = (n : Int) + 1 := by omega
                    rw [q1] at HNU
                    clear q1
                    have hnb : (n : Int) + 1 ≤ 9223372036854775807 := by omega
                    go_wp2_with fail
                    refine HNU.out.mono ?_
                    rintro e w3 ⟨rfl, hw3⟩
                    subst hw3
                    clear hcv HNU
                    cases nd with
                    | none =>
                      have HNO : Hid (mo = none) := by
                        (show _ = _)
                        cases hm : mo with
                        | none => rfl
                        | some m => obtain ⟨a, p, b⟩ := m; have := (HW.out a p b hm).2.2.2.1; cases this
                      simp only [Option.map_none, Option.getD_none, Option.isSome_none]
                      go_wp2_with fail
                      refine bodyPost_ret (v := .tuple #[.int .i64 0, .int .i64 0, .int .i64 0, .bool false]) (by simp [results, Tryz.results31, go_sem]) rfl ?_
                      exact ⟨by rw [HNO.out]; rfl, lc⟩
                    | some pe =>
                      obtain ⟨p, e⟩ := pe
                      simp only [Option.map_some, Option.getD_some, Option.isSome_some]
                      have HW2 : Hid (∀ a q b, mo = some (a, q, b) → q = p ∧ l.size - b.size = e ∧ 1 ≤ p ∧ e < l.size ∧ bAt l e = 32 ∧ a.size = n + 1) := fun a q b h => by
                        obtain ⟨_, _, _, g1, g2, g3, g4, g5⟩ := HW.out a q b h
                        simp only [Option.some.injEq, Prod.mk.injEq] at g1
                        obtain ⟨rfl, rfl⟩ := g1
                        exact ⟨rfl, rfl, g2, g3, g4, g5⟩
                      clear HW
                      by_cases d1 : p = 0
                      · have HNO : Hid (mo = none) := by
                          (show _ = _)
                          cases hm : mo with
                          | none => rfl
                          | some m => obtain ⟨a, q, b⟩ := m; have := HW2.out a q b hm; omega
                        subst d1
                        go_wp2_with fail
                        refine bodyPost_ret (v := .tuple #[.int .i64 0, .int .i64 0, .int .i64 0, .bool false]) (by simp [results, Tryz.results31, go_sem]) rfl ?_
                        exact ⟨by rw [HNO.out]; rfl, lc⟩
                      · have f1 : (p == 0) = false := by rw [beq_eq_false_iff_ne]; exact d1
                        by_cases d2 : e < l.size
                        · have f2 : ¬ (l.size : Int) ≤ (e : Int) := by omega
                          have hbe := bAt_get l e d2
                          by_cases d3 : bAt l e = 32
                          · have f3 : ((((l[e]'d2).toNat : Nat) : Int) != 32) = false := by rw [hbe, d3]; rfl
                            have hne := HMF.out p e rfl d1 d2 d3
                            obtain ⟨m, HNO⟩ : ∃ m, Hid (mo = some m) := by
                              cases hm : mo with
                              | none => exact absurd hm hne
                              | some m => exact ⟨m, rfl⟩
                            obtain ⟨a, q, b⟩ := m
                            obtain ⟨g1, g2, _, _, _, g5⟩ := HW2.out a q b HNO.out
                            subst g1
                            have G2 := hide g2
                            have G5 := hide g5
                            clear hne hbe d3 d1 HMF HW2 g2 g5
                            go_wp2_with fail
                            refine bodyPost_ret (v := .tuple #[.int .i64 q, .int .i64 ((n : Int) + 1), .int .i64 (e : Int), .bool true]) (by simp [results, Tryz.results31, go_sem]) rfl ?_
                            exact ⟨by rw [HNO.out]; simp only [rmV]; rw [G2.out, G5.out]; rfl, lc⟩
                          · have HNO : Hid (mo = none) := by
                              (show _ = _)
                              cases hm : mo with
                              | none => rfl
                              | some m => obtain ⟨a, q, b⟩ := m; exact absurd (HW2.out a q b hm).2.2.2.2.1 d3
                            have f3 : ((((l[e]'d2).toNat : Nat) : Int) != 32) = true := by rw [hbe]; simp [d3]
                            clear hbe d3 d1 HMF HW2
                            go_wp2_with fail
                            refine bodyPost_ret (v := .tuple #[.int .i64 0, .int .i64 0, .int .i64 0, .bool false]) (by simp [results, Tryz.results31, go_sem]) rfl ?_
                            exact ⟨by rw [HNO.out]; rfl, lc⟩
                        · have HNO : Hid (mo = none) := by
                            (show _ = _)
                            cases hm : mo with
                            | none => rfl
                            | some m => obtain ⟨a, q, b⟩ := m; exact absurd (HW2.out a q b hm).2.2.2.1 d2
                          have f2 : (l.size : Int) ≤ (e : Int) := by omega
                          clear d1 HMF HW2
                          go_wp2_with fail
                          refine bodyPost_ret (v := .tuple #[.int .i64 0, .int .i64 0, .int .i64 0, .bool false]) (by simp [results, Tryz.results31, go_sem]) rfl ?_
                          exact ⟨by rw [HNO.out]; rfl, lc⟩
                  · have HNO : Hid (mo = none) := by
                      (show _ = _)
                      cases hm : mo with
                      | none => rfl
                      | some m => obtain ⟨a, p, b⟩ := m; exact absurd (HW.out a p b hm).2.2.1 c3
                    have t3 : ((((l[n]'c2).toNat : Nat) : Int) != 32) = true := by rw [hbg]; simp [c3]
                    clear hbg c3 c1
                    go_wp2_with fail
                    refine bodyPost_ret (v := .tuple #[.int .i64 0, .int .i64 0, .int .i64 0, .bool false]) (by simp [results, Tryz.results31, go_sem]) rfl ?_
                    exact ⟨by rw [HNO.out]; rfl, Later.refl _⟩
                · have HNO : Hid (mo = none) := by
                    (show _ = _)
                    cases hm : mo with
                    | none => rfl
                    | some m => obtain ⟨a, p, b⟩ := m; exact absurd (HW.out a p b hm).2.1 c2
                  have t1 : ((n : Int) == 2) = false := by rw [beq_eq_false_iff_ne]; omega
                  have t2 : (l.size : Int) ≤ (n : Int) := by omega
                  clear c1
                  go_wp2_with fail
                  refine bodyPost_ret (v := .tuple #[.int .i64 0, .int .i64 0, .int .i64 0, .bool false]) (by simp [results, Tryz.results31, go_sem]) rfl ?_
                  exact ⟨by rw [HNO.out]; rfl, Later.refl _⟩
            · have HST := hide (HST0.out (by rw [HLC.out]; simp [a1, a3]))
              clear HSU HLC HST0
              go_upto_region 6 with fail
              clear a1 a3
              have HW : Hid (∀ a p b, mo = some (a, p, b) → 2 < n ∧ n < l.size ∧ bAt l n = 32 ∧ numD (nmsB l) (n + 1) 65535 = some (p, l.size - b.size) ∧ 1 ≤ p ∧ l.size - b.size < l.size ∧ bAt l (l.size - b.size) = 32 ∧ a.size = n + 1) := fun a p b h => md_where (HMO.out.trans h) HL.out HST.out
              have hn2 := HL.out.1
              by_cases c1 : n = 2
              · have HNO : Hid (mo = none) := by
                  (show _ = _)
                  cases hm : mo with
                  | none => rfl
                  | some m => obtain ⟨a, p, b⟩ := m; have := HW.out a p b hm; omega
                have t1 : ((n : Int) == 2) = true := by simp [c1]
                clear c1
                go_wp2_with fail
                refine bodyPost_ret (v := .tuple #[.int .i64 0, .int .i64 0, .int .i64 0, .bool false]) (by simp [results, Tryz.results31, go_sem]) rfl ?_
                exact ⟨by rw [HNO.out]; rfl, Later.refl _⟩
              by_cases c2 : n < l.size
              · have t1 : ((n : Int) == 2) = false := by rw [beq_eq_false_iff_ne]; omega
                have t2 : ¬ (l.size : Int) ≤ (n : Int) := by omega
                have hbg := bAt_get l n c2
                by_cases c3 : bAt l n = 32
                · have t3 : ((((l[n]'c2).toNat : Nat) : Int) != 32) = false := by rw [hbg, c3]; rfl
                  have HMF : Hid (∀ p e, numD (nmsB l) (n + 1) 65535 = some (p, e) → p ≠ 0 → e < l.size → bAt l e = 32 → mo ≠ none) := fun p e hd hp he hes => by rw [← HMO.out]; exact md_found h0 HL.out (by omega) c2 c3 hd hp he hes
                  clear hbg c1
                  go_upto_region 8 with fail
                  clear t1 t2 t3
                  have hG := conv_G wr l (by omega)
                  have hcv := Lib.run_convert_string_bytes wr 9 23 5 l Tryz.underlying9 Tryz.underlying23 Tryz.underlying5
                  have lc := conv_later wr 5 l
                  have hR := hG.rd
                  generalize Lib.bytesWorld wr 5 l = w2 at *
                  generalize grownCap wr l.size 0 5 = gcp at *
                  have HNU := hide (rnumber_any wr.heap.size 0 gcp w2.heap.size (nmsB l) (nmsB_by l) (n + 1) 65535 w2 (by rw [nmsB_len]; exact hR) (by rw [nmsB_len]; omega) (by rw [nmsB_len]; omega) (by omega))
                  rw [nmsB_len] at HNU
                  clear hG hR
                  generalize numD (nmsB l) (n + 1) 65535 = nd at *
                  generalize wr.heap.size = gq at *
                  have q1 : ((n + 1 : Nat) : Int) = (n : Int) + 1 := by omega
                  rw [q1] at HNU
                  clear q1
                  have hnb : (n : Int) + 1 ≤ 9223372036854775807 := by omega
                  go_wp2_with fail
                  refine HNU.out.mono ?_
                  rintro e w3 ⟨rfl, hw3⟩
                  subst hw3
                  clear hcv HNU
                  cases nd with
                  | none =>
                    have HNO : Hid (mo = none) := by
                      (show _ = _)
                      cases hm : mo with
                      | none => rfl
                      | some m => obtain ⟨a, p, b⟩ := m; have := (HW.out a p b hm).2.2.2.1; cases this
                    simp only [Option.map_none, Option.getD_none, Option.isSome_none]
                    go_wp2_with fail
                    refine bodyPost_ret (v := .tuple #[.int .i64 0, .int .i64 0, .int .i64 0, .bool false]) (by simp [results, Tryz.results31, go_sem]) rfl ?_
                    exact ⟨by rw [HNO.out]; rfl, lc⟩
                  | some pe =>
                    obtain ⟨p, e⟩ := pe
                    simp only [Option.map_some, Option.getD_some, Option.isSome_some]
                    have HW2 : Hid (∀ a q b, mo = some (a, q, b) → q = p ∧ l.size - b.size = e ∧ 1 ≤ p ∧ e < l.size ∧ bAt l e = 32 ∧ a.size = n + 1) := fun a q b h => by
                      obtain ⟨_, _, _, g1, g2, g3, g4, g5⟩ := HW.out a q b h
                      simp only [Option.some.injEq, Prod.mk.injEq] at g1
                      obtain ⟨rfl, rfl⟩ := g1
                      exact ⟨rfl, rfl, g2, g3, g4, g5⟩
                    clear HW
                    by_cases d1 : p = 0
                    · have HNO : Hid (mo = none) := by
                        (show _ = _)
                        cases hm : mo with
                        | none => rfl
                        | some m => obtain ⟨a, q, b⟩ := m; have := HW2.out a q b hm; omega
                      subst d1
                      go_wp2_with fail
                      refine bodyPost_ret (v := .tuple #[.int .i64 0, .int .i64 0, .int .i64 0, .bool false]) (by simp [results, Tryz.results31, go_sem]) rfl ?_
                      exact ⟨by rw [HNO.out]; rfl, lc⟩
                    · have f1 : (p == 0) = false := by rw [beq_eq_false_iff_ne]; exact d1
                      by_cases d2 : e < l.size
                      · have f2 : ¬ (l.size : Int) ≤ (e : Int) := by omega
                        have hbe := bAt_get l e d2
                        by_cases d3 : bAt l e = 32
                        · have f3 : ((((l[e]'d2).toNat : Nat) : Int) != 32) = false := by rw [hbe, d3]; rfl
                          have hne := HMF.out p e rfl d1 d2 d3
                          obtain ⟨m, HNO⟩ : ∃ m, Hid (mo = some m) := by
                            cases hm : mo with
                            | none => exact absurd hm hne
                            | some m => exact ⟨m, rfl⟩
                          obtain ⟨a, q, b⟩ := m
                          obtain ⟨g1, g2, _, _, _, g5⟩ := HW2.out a q b HNO.out
                          subst g1
                          have G2 := hide g2
                          have G5 := hide g5
                          clear hne hbe d3 d1 HMF HW2 g2 g5
                          go_wp2_with fail
                          refine bodyPost_ret (v := .tuple #[.int .i64 q, .int .i64 ((n : Int) + 1), .int .i64 (e : Int), .bool true]) (by simp [results, Tryz.results31, go_sem]) rfl ?_
                          exact ⟨by rw [HNO.out]; simp only [rmV]; rw [G2.out, G5.out]; rfl, lc⟩
                        · have HNO : Hid (mo = none) := by
                            (show _ = _)
                            cases hm : mo with
                            | none => rfl
                            | some m => obtain ⟨a, q, b⟩ := m; exact absurd (HW2.out a q b hm).2.2.2.2.1 d3
                          have f3 : ((((l[e]'d2).toNat : Nat) : Int) != 32) = true := by rw [hbe]; simp [d3]
                          clear hbe d3 d1 HMF HW2
                          go_wp2_with fail
                          refine bodyPost_ret (v := .tuple #[.int .i64 0, .int .i64 0, .int .i64 0, .bool false]) (by simp [results, Tryz.results31, go_sem]) rfl ?_
                          exact ⟨by rw [HNO.out]; rfl, lc⟩
                      · have HNO : Hid (mo = none) := by
                          (show _ = _)
                          cases hm : mo with
                          | none => rfl
                          | some m => obtain ⟨a, q, b⟩ := m; exact absurd (HW2.out a q b hm).2.2.2.1 d2
                        have f2 : (l.size : Int) ≤ (e : Int) := by omega
                        clear d1 HMF HW2
                        go_wp2_with fail
                        refine bodyPost_ret (v := .tuple #[.int .i64 0, .int .i64 0, .int .i64 0, .bool false]) (by simp [results, Tryz.results31, go_sem]) rfl ?_
                        exact ⟨by rw [HNO.out]; rfl, lc⟩
                · have HNO : Hid (mo = none) := by
                    (show _ = _)
                    cases hm : mo with
                    | none => rfl
                    | some m => obtain ⟨a, p, b⟩ := m; exact absurd (HW.out a p b hm).2.2.1 c3
                  have t3 : ((((l[n]'c2).toNat : Nat) : Int) != 32) = true := by rw [hbg]; simp [c3]
                  clear hbg c3 c1
                  go_wp2_with fail
                  refine bodyPost_ret (v := .tuple #[.int .i64 0, .int .i64 0, .int .i64 0, .bool false]) (by simp [results, Tryz.results31, go_sem]) rfl ?_
                  exact ⟨by rw [HNO.out]; rfl, Later.refl _⟩
              · have HNO : Hid (mo = none) := by
                  (show _ = _)
                  cases hm : mo with
                  | none => rfl
                  | some m => obtain ⟨a, p, b⟩ := m; exact absurd (HW.out a p b hm).2.1 c2
                have t1 : ((n : Int) == 2) = false := by rw [beq_eq_false_iff_ne]; omega
                have t2 : (l.size : Int) ≤ (n : Int) := by omega
                clear c1
                go_wp2_with fail
                refine bodyPost_ret (v := .tuple #[.int .i64 0, .int .i64 0, .int .i64 0, .bool false]) (by simp [results, Tryz.results31, go_sem]) rfl ?_
                exact ⟨by rw [HNO.out]; rfl, Later.refl _⟩
        · have hng : ¬ (n : Int) < (l.size : Int) := by omega
          have HST : Hid (n = l.size ∨ ltC (bAt l n) = false) := .inl (by omega)
          go_upto_region 6 with fail
          have HW : Hid (∀ a p b, mo = some (a, p, b) → 2 < n ∧ n < l.size ∧ bAt l n = 32 ∧ numD (nmsB l) (n + 1) 65535 = some (p, l.size - b.size) ∧ 1 ≤ p ∧ l.size - b.size < l.size ∧ bAt l (l.size - b.size) = 32 ∧ a.size = n + 1) := fun a p b h => md_where (HMO.out.trans h) HL.out HST.out
          have hn2 := HL.out.1
          by_cases c1 : n = 2
          · have HNO : Hid (mo = none) := by
              (show _ = _)
              cases hm : mo with
              | none => rfl
              | some m => obtain ⟨a, p, b⟩ := m; have := HW.out a p b hm; omega
            have t1 : ((n : Int) == 2) = true := by simp [c1]
            clear c1
            go_wp2_with fail
            refine bodyPost_ret (v := .tuple #[.int .i64 0, .int .i64 0, .int .i64 0, .bool false]) (by simp [results, Tryz.results31, go_sem]) rfl ?_
            exact ⟨by rw [HNO.out]; rfl, Later.refl _⟩
          have c2 := hlt
          · have HNO : Hid (mo = none) := by
              (show _ = _)
              cases hm : mo with
              | none => rfl
              | some m => obtain ⟨a, p, b⟩ := m; exact absurd (HW.out a p b hm).2.1 c2
            have t1 : ((n : Int) == 2) = false := by rw [beq_eq_false_iff_ne]; omega
            have t2 : (l.size : Int) ≤ (n : Int) := by omega
            clear c1
            go_wp2_with fail
            refine bodyPost_ret (v := .tuple #[.int .i64 0, .int .i64 0, .int .i64 0, .bool false]) (by simp [results, Tryz.results31, go_sem]) rfl ?_
            exact ⟨by rw [HNO.out]; rfl, Later.refl _⟩
    · have HNO : Hid (mdO l = none) := md_begin (fun h => hb h.2)
      rw [decide_eq_false hb] at hex
      generalize mdO l = mo at *
      go_enter Tryz.func31, Tryz.ntmps31
      go_wp2_with fail
      refine bodyPost_ret (v := .tuple #[.int .i64 0, .int .i64 0, .int .i64 0, .bool false]) (by simp [results, Tryz.results31, go_sem]) rfl ?_
      exact ⟨by rw [HNO.out]; rfl, Later.refl _⟩
  · have HNO : Hid (mdO l = none) := md_begin (fun h => h2 h.1)
    have hs2 : (l.size : Int) < 2 := by omega
    generalize mdO l = mo at *
    go_enter Tryz.func31, Tryz.ntmps31
    go_wp2_with fail
    refine bodyPost_ret (v := .tuple #[.int .i64 0, .int .i64 0, .int .i64 0, .bool false]) (by simp [results, Tryz.results31, go_sem]) rfl ?_
    exact ⟨by rw [HNO.out]; rfl, Later.refl _⟩
end Go.Proofs.YtibjgaelaijgpaaGreatDoor
