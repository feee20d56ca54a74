/- Package ftp: a reader's row of numbers. -/
import Derived.Test.YtfnlakpjepjhbaaDoorFG
namespace Go.Proofs.YtfnlakpjepjhbaaDoor
open Go.RowKit Go.Shelf
set_option maxRecDepth 100000
set_option linter.unusedVariables false
set_option linter.unusedSimpArgs false

/-- Where the next number begins; 'none': the mark is not there. -/
def nxP (zs : List Int) (mk : ByteArray) (i p : Nat) : Option Nat := if i = 0 then some p else if tkB zs p mk = true then some (p + mk.size) else none
/-- So many numbers from a place on, and where they end. -/
def rowF (zs : List Int) (mk : ByteArray) : Nat → Nat → Nat → Option (List Int × Nat)
  | 0, _, p => some ([], p)
  | k + 1, i, p => (nxP zs mk i p).bind fun q => (numV (dgS zs q) 255).bind fun v => (rowF zs mk k (i + 1) (dgZ zs q)).map fun x => (v :: x.1, x.2)
/-- What a row leaves. -/
def RowQ (zs : List Int) (rb nb : Nat) (tn : TypeId) (bv : Value) (r : Rr) (w w' : World) (e : Ending) (o : Option (List Int × Nat)) : Prop :=
  But (fun g => g = rb ∨ g = nb) w w' ∧ e = .returned (.bool o.isSome) ∧ (∀ x, o = some x → RB w' rb bv (atR r x.2) ∧ x.2 ≤ zs.length ∧ w'.heap[nb]? = some (.cells (x.1.map (Value.int .u8)).toArray tn (0, 0))) ∧ ∃ p, p ≤ zs.length ∧ RB w' rb bv (atR r p)
theorem rowF_len (zs : List Int) (mk : ByteArray) : ∀ k i p x, rowF zs mk k i p = some x → x.1.length = k
  | 0, i, p, x, h => by
    have : x = ([], p) := by simpa [rowF] using h.symm
    rw [this]; rfl
  | k + 1, i, p, x, h => by
    unfold rowF at h
    obtain ⟨q, _, h⟩ := Option.bind_eq_some_iff.1 h
    obtain ⟨v, _, h⟩ := Option.bind_eq_some_iff.1 h
    obtain ⟨y, hy, rfl⟩ := Option.map_eq_some_iff.1 h
    have := rowF_len zs mk k (i + 1) _ y hy
    simp [this]
theorem But.wk1 {E E' : Nat → Prop} {a b : World} (h : But E a b) (hE : ∀ k, E k → E' k) : But E' a b := ⟨h.os, h.tape, h.output, h.size, fun i hi he => h.block i hi (fun h' => he (hE i h'))⟩
theorem OnlyB.wk1 {rb : Nat} {E' : Nat → Prop} {a b : World} (h : OnlyB rb a b) (hE : ∀ k, k = rb → E' k) : But E' a b := But.wk1 h hE
theorem tkB_le {zs : List Int} {p : Nat} {t : ByteArray} (h : tkB zs p t = true) : p + t.size ≤ zs.length := by
  unfold tkB at h
  simp at h
  exact h.1

/-- Whether the next number may begin: behind the first one, behind a mark. -/
def NQ (zs : List Int) (mk : ByteArray) (i p rb : Nat) (bv : Value) (r : Rr) (wr : World) (v : Value) (wx : World) : Prop :=
  (v = .bool false ∧ ∃ q : Nat, q ≤ zs.length ∧ nxP zs mk i p = some q ∧ RB wx rb bv (atR r q) ∧ But (fun g => g = rb) wr wx) ∨ (v = .bool true ∧ nxP zs mk i p = none ∧ RB wx rb bv (atR r p) ∧ But (fun g => g = rb) wr wx)

set_option maxHeartbeats 8000000 in
theorem row_any (rb nb : Nat) (tn : TypeId) (bb off cp n₀ m : Nat) (zs : List Int) (hz : Mt.By zs) (mk : ByteArray) (old : List Value) (r : Rr) (w : World) (h : RB w rb (.slice (some ⟨bb, off, none⟩) zs.length cp) r) (hN : w.heap[nb]? = some (.cells old.toArray tn (0, 0))) (hom : old.length = m) (hI : Rd n₀ w (.slice (some ⟨bb, off, none⟩) zs.length cp) zs) (hl : zs.length ≤ 1000) (hm : m ≤ 10) (hmk : 0 < mk.size ∧ mk.size ≤ 1000) (ha : r.at0 ≤ zs.length) (hn0 : n₀ ≤ w.heap.size) (hrb : n₀ ≤ rb) (hnb : n₀ ≤ nb) (hne : rb ≠ nb) :
    Calls Tryd.prog 32 #[.pointer (some ⟨rb, 0, none⟩), .slice (some ⟨nb, 0, none⟩) m m, .string mk] w fun e w' => RowQ zs rb nb tn (.slice (some ⟨bb, off, none⟩) zs.length cp) r w w' e (rowF zs mk m 0 r.at0) := by
  have HB := hide h
  have HN := hide hN
  have HI := hide hI
  have g1 : (m : Int) ≤ 10 := by omega
  have HA := hide ha
  clear h hN hI
  generalize hrf : rowF zs mk m 0 r.at0 = o at *
  have HRF := hide hrf
  clear hrf
  go_enter Tryd.func32, Tryd.ntmps32
  go_wp2_with fail
  go_loopw [12] (fun iv wr => ∃ (i p : Nat) (dn : List Int), i ≤ m ∧ iv = .int .i64 (i : Int) ∧ dn.length = i ∧ p ≤ zs.length ∧ RB wr rb (.slice (some ⟨bb, off, none⟩) zs.length cp) (atR r p) ∧ wr.heap[nb]? = some (.cells (dn.map (Value.int .u8) ++ old.drop i).toArray tn (0, 0)) ∧ But (fun g => g = rb ∨ g = nb) w wr ∧ o = (rowF zs mk (m - i) i p).map fun x => (dn ++ x.1, x.2)) (fun iv _ => m - (intOf iv).toNat)
  case atStart => exact ⟨0, r.at0, [], by omega, rfl, rfl, HA.out, HB.out, by simpa using HN.out, But.refl _ _, by rw [← HRF.out]; simp⟩
  case round =>
    obtain ⟨i, p, dn, hi, rfl, hdn, hp, hbr, hnr, ho, hof⟩ := hrel
    have HO := hide ho
    have HOF := hide hof
    have HBR := hide hbr
    have HNR := hide hnr
    have hws : w.heap.size ≤ wr.heap.size := But.size ho
    have HIR := hide (HI.out.below (But.below ho hn0 (fun k hk e => by rcases e with e | e <;> omega)))
    clear hbr hnr hof
    by_cases him : i < m
    · have him' : (i : Int) < (m : Int) := by omega
      have HST : Hid (rowF zs mk (m - i) i p = (nxP zs mk i p).bind fun q => (numV (dgS zs q) 255).bind fun v => (rowF zs mk (m - (i + 1)) (i + 1) (dgZ zs q)).map fun x => (v :: x.1, x.2)) := by
        show _ = _
        rw [show m - i = (m - (i + 1)) + 1 by omega]
        rfl
      go_upto_region 4 with fail
      go_cut [24] (fun v wx => NQ zs mk i p rb (.slice (some ⟨bb, off, none⟩) zs.length cp) r wr v wx)
      case first =>
        rcases (show i = 0 ∨ 0 < i by omega) with hi0 | hi0
        · have q1 : ¬ (0 : Int) < (i : Int) := by omega
          have q2 : ¬ 0 < i := by omega
          have HNX : Hid (nxP zs mk i p = some p) := by show _ = _; unfold nxP; rw [if_pos hi0]
          clear hi0
          go_wp2_with fail
          go_meet
          case rel => exact .inl ⟨rfl, p, hp, HNX.out, HBR.out, But.refl _ _⟩
        · have q1 : (0 : Int) < (i : Int) := by omega
          have HTK := hide (take_any rb bb off cp n₀ zs mk (atR r p) wr HBR.out HIR.out hl hmk hp (by omega))
          have e0 : (atR r p).at0 = p := rfl
          rw [e0] at HTK
          clear e0
          cases htk : tkB zs p mk with
          | true =>
            have hle := tkB_le htk
            have HNX : Hid (nxP zs mk i p = some (p + mk.size)) := by show _ = _; unfold nxP; rw [if_neg (by omega), if_pos htk]
            rw [htk] at HTK
            clear htk
            go_wp2_with fail
            refine HTK.out.mono ?_
            rintro e w2 ⟨rfl, o2, b2⟩
            have B2 := hide b2
            clear b2
            go_wp2_with fail
            go_meet
            case rel => exact .inl ⟨rfl, p + mk.size, hle, HNX.out, by have := B2.out; rw [if_pos trivial] at this; exact this, o2⟩
          | false =>
            have HNX : Hid (nxP zs mk i p = none) := by show _ = _; unfold nxP; rw [if_neg (by omega), htk]; rfl
            rw [htk] at HTK
            clear htk
            go_wp2_with fail
            refine HTK.out.mono ?_
            rintro e w2 ⟨rfl, o2, b2⟩
            have B2 := hide b2
            clear b2
            go_wp2_with fail
            go_meet
            case rel => exact .inr ⟨rfl, HNX.out, by have := B2.out; rw [if_neg (by simp)] at this; exact this, o2⟩
      case rest =>
        rcases hcut with ⟨rfl, q, hq, hnx, hbq, hoq⟩ | ⟨rfl, hnx, hbq, hoq⟩
        rotate_left
        · have HOE : Hid (o = none) := by show _ = _; rw [HOF.out, HST.out, hnx]; rfl
          have HBQ := hide hbq
          clear hnx hbq
          go_wp2_with fail
          refine bodyPost_ret (v := .bool false) (by simp [results, Tryd.results32, go_sem]) rfl ?_
          exact ⟨HO.out.trans (hoq.wk1 (fun k hk => .inl hk)), by rw [HOE.out]; rfl, (fun x hx => by rw [HOE.out] at hx; cases hx), p, hp, HBQ.out⟩
        have hqs : wr.heap.size ≤ wc.heap.size := But.size hoq
        have hIq := HIR.out.below (But.below hoq (by omega) (fun k hk e => by omega))
        have HDG := hide (digits_any rb bb off cp n₀ zs hz (atR r q) wc hbq hIq hl hq (by omega) hrb)
        have HBY := hide (fun W => wbyte_any (dgS zs q) W)
        have e3 : strOfNums ((zs.drop (atR r q).at0).take (dgZ zs (atR r q).at0 - (atR r q).at0)) = dgS zs q := rfl
        have e4 : (atR r q).at0 = q := rfl
        rw [e3, e4] at HDG
        have hdz := dgZ_le hq
        have HNQ := hide ((hoq.block nb (Array.getElem?_eq_some_iff.1 HNR.out).1 (fun e => hne e.symm)).trans HNR.out)
        have HOQ := hide hoq
        have HSQ : Hid (o = ((numV (dgS zs q) 255).bind fun v => (rowF zs mk (m - (i + 1)) (i + 1) (dgZ zs q)).map fun x => (v :: x.1, x.2)).map fun x => (dn ++ x.1, x.2)) := by show _ = _; rw [HOF.out, HST.out, hnx]; rfl
        clear e3 e4 hbq hIq hnx hoq
        generalize dgS zs q = sq at *
        generalize dgZ zs q = dz at *
        cases hnv : numV sq 255 with
        | none =>
          have HOE : Hid (o = none) := by show _ = _; rw [HSQ.out, hnv]; rfl
          rw [hnv] at HBY
          clear hnv
          go_wp2_with fail
          refine HDG.out.mono ?_
          rintro e w2 ⟨rfl, o2, b2⟩
          go_wp2_with fail
          refine (HBY.out w2).mono ?_
          rintro e w3 ⟨rfl, l3⟩
          simp only [Option.getD_none, Option.isSome_none]
          have B3 := hide (RB.later b2 l3)
          clear b2
          go_wp2_with fail
          refine bodyPost_ret (v := .bool false) (by simp [results, Tryd.results32, go_sem]) rfl ?_
          exact ⟨HO.out.trans ((But.trans HOQ.out (But.trans o2 (But.of l3))).wk1 (fun k hk => .inl hk)), by rw [HOE.out]; rfl, (fun x hx => by rw [HOE.out] at hx; cases hx), dz, hdz.2, B3.out⟩
        | some v =>
          have HOE : Hid (o = ((rowF zs mk (m - (i + 1)) (i + 1) dz).map fun x => (v :: x.1, x.2)).map fun x => (dn ++ x.1, x.2)) := by show _ = _; rw [HSQ.out, hnv]; rfl
          rw [hnv] at HBY
          clear hnv HSQ
          go_wp2_with fail
          refine HDG.out.mono ?_
          rintro e w2 ⟨rfl, o2, b2⟩
          go_wp2_with fail
          refine (HBY.out w2).mono ?_
          rintro e w3 ⟨rfl, l3⟩
          simp only [Option.getD_some, Option.isSome_some]
          have hN2 := (But.block o2 nb (Array.getElem?_eq_some_iff.1 HNQ.out).1 (fun e => hne e.symm)).trans HNQ.out
          have hN3 := later_keep l3 hN2
          have B3 := hide (RB.later b2 l3)
          have kn := block_cell hN3
          have fn := block_frozen hN3
          have hlen : i < (dn.map (Value.int .u8) ++ old.drop i).length := by simp; omega
          have kni : w3.cell? ⟨nb, i, none⟩ = some ((dn.map (Value.int .u8) ++ old.drop i)[i]'hlen) := by rw [kn i, List.getElem?_toArray, List.getElem?_eq_getElem hlen]
          generalize (dn.map (Value.int .u8) ++ old.drop i)[i]'hlen = cv at *
          have hset := heap_set1 hN3 i (.int .u8 v)
          have HSET : Hid ((w3.setCell ⟨nb, i, none⟩ (.int .u8 v)).heap[nb]? = some (.cells ((dn ++ [v]).map (Value.int .u8) ++ old.drop (i + 1)).toArray tn (0, 0))) := by
            show _ = _
            rw [hset, List.setIfInBounds_toArray]
            congr 3
            have hl2 : (dn.map (Value.int .u8)).length = i := by simpa using hdn
            rw [List.set_append_right _ _ (by omega), hl2, Nat.sub_self, List.drop_eq_getElem_cons (show i < old.length by omega), List.set_cons_zero]
            simp
          have HRB : Hid (RB (w3.setCell ⟨nb, i, none⟩ (.int .u8 v)) rb (.slice (some ⟨bb, off, none⟩) zs.length cp) (atR r dz)) := by
            show _ = _
            exact (Below.heap_setCell _ ⟨nb, i, none⟩ _ rb (by simpa using hne)).trans B3.out
          clear b2 kn hset hN2 hN3
          go_wp2_with fail
          go_roundw
          case rel =>
            refine ⟨i + 1, dz, dn ++ [v], by omega, by simp, by simp [hdn], hdz.2, HRB.out, HSET.out, HO.out.trans (((But.trans HOQ.out (But.trans o2 (But.of l3))).wk1 (fun k hk => .inl hk)).trans ((But.refl (fun g => g = rb ∨ g = nb) _).setCell (p := ⟨nb, i, none⟩) (.inr rfl) _)), ?_⟩
            rw [HOE.out, Option.map_map]
            congr 1
            funext x
            simp
          case measure => simp [intOf]; omega
    · have him' : ¬ (i : Int) < (m : Int) := by omega
      have ei : i = m := by omega
      have HOE : Hid (o = some (dn, p)) := by show _ = _; rw [HOF.out, ei, Nat.sub_self]; simp [rowF]
      have HDN : Hid (dn.map (Value.int .u8) ++ old.drop i = dn.map (Value.int .u8)) := by show _ = _; rw [List.drop_eq_nil_of_le (by omega), List.append_nil]
      clear ei
      go_wp2_with fail
      refine bodyPost_ret (v := .bool true) (by simp [results, Tryd.results32, go_sem]) rfl ?_
      refine ⟨HO.out, by rw [HOE.out]; rfl, fun x hx => ?_, p, hp, HBR.out⟩
      obtain rfl : (dn, p) = x := by rw [HOE.out] at hx; exact Option.some.inj hx
      exact ⟨HBR.out, hp, by have := HNR.out; rw [HDN.out] at this; exact this⟩
end Go.Proofs.YtfnlakpjepjhbaaDoor
