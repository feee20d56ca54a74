/- Several texts in one. -/
import Derived.Test.YtehdgndbloaljaaDoorX4
import Derived.Deep.Cut
import Derived.Test.YtehdgndbloaljaaDoorRh
/- Package sip: Same; the law's live. -/
namespace Go.Proofs.YtehdgndbloaljaaDoor
open Go.RowKit Go.Shelf
set_option maxRecDepth 100000
set_option linter.unusedVariables false
set_option linter.unusedSimpArgs false

/-- Two messages are the same. -/
def smM (s1 s2 : ByteArray) (h1 h2 : List Hr) (z1 z2 : List Int) : Bool := eqS s1 s2 && (decide (h1 = h2) && decide (z1 = z2))
theorem smM_self (s : ByteArray) (h : List Hr) (z : List Int) : smM s s h h z z = true := by
  unfold smM
  rw [eqS_iff.2 rfl]
  simp

set_option maxRecDepth 100000 in
set_option maxHeartbeats 4000000 in
theorem same14_any (s1 s2 : ByteArray) (v1 v2 b1 b2 : Value) (h1 h2 : List Hr) (z1 z2 : List Int) (w : World) (hH1 : RdM w.heap.size w v1 h1) (hH2 : RdM w.heap.size w v2 h2) (hB1 : Rd w.heap.size w b1 z1) (hB2 : Rd w.heap.size w b2 z2) (hy1 : Mt.By z1) (hy2 : Mt.By z2) :
    Calls Tryd.prog 13 #[.agg #[.string s1, v1, b1], .agg #[.string s2, v2, b2]] w fun e w' => e = .returned (.bool (smM s1 s2 h1 h2 z1 z2)) ∧ Later w w' := by
  obtain ⟨a1, c1, rfl, _, _⟩ := hH1.slice
  obtain ⟨a2, c2, rfl, _, _⟩ := hH2.slice
  obtain ⟨a3, c3, rfl, _, _⟩ := hB1.slice
  obtain ⟨a4, c4, rfl, _, _⟩ := hB2.slice
  have hb4 : Later w ((w.alloc (.cells #[.string s1, .slice a1 h1.length c1, .slice a3 z1.length c3] 25)).alloc (.cells #[.string s2, .slice a2 h2.length c2, .slice a4 z2.length c4] 25)) := ((Below.refl _ _).alloc (Nat.le_refl _) _).alloc (by simp) _
  have C0 := hide (show ((w.alloc (.cells #[.string s1, .slice a1 h1.length c1, .slice a3 z1.length c3] 25)).alloc (.cells #[.string s2, .slice a2 h2.length c2, .slice a4 z2.length c4] 25)).heap[w.heap.size]? = some (.cells #[.string s1, .slice a1 h1.length c1, .slice a3 z1.length c3] 25 (0, 0)) from (Below.heap_alloc _ _ _ (by simp)).trans (heap_alloc_new w _))
  have C1 : Hid (((w.alloc (.cells #[.string s1, .slice a1 h1.length c1, .slice a3 z1.length c3] 25)).alloc (.cells #[.string s2, .slice a2 h2.length c2, .slice a4 z2.length c4] 25)).heap[w.heap.size + 1]? = some (.cells #[.string s2, .slice a2 h2.length c2, .slice a4 z2.length c4] 25 (0, 0))) := by
    have := heap_alloc_new (w.alloc (.cells #[.string s1, .slice a1 h1.length c1, .slice a3 z1.length c3] 25)) (.cells #[.string s2, .slice a2 h2.length c2, .slice a4 z2.length c4] 25)
    rw [World.size_alloc] at this
    exact this
  have HE := hide (fun W (l : Later w W) => equalH_any _ _ h1 h2 W (hH1.later l) (hH2.later l))
  have HF := hide (fun W (l : Later w W) => equal_any _ _ z1 z2 W hy1 hy2 (hB1.later l) (hB2.later l))
  have HV : Hid (smM s1 s2 h1 h2 z1 z2 = (eqS s1 s2 && (decide (h1 = h2) && decide (z1 = z2)))) := rfl
  have HQ := hide (str_beq s1 s2)
  generalize smM s1 s2 h1 h2 z1 z2 = r at *
  generalize decide (h1 = h2) = q1 at *
  generalize decide (z1 = z2) = q2 at *
  generalize eqS s1 s2 = q0 at *
  clear hH1 hH2 hB1 hB2 hy1 hy2
  go_enter Tryd.func13, Tryd.ntmps13
  go_upto_region 1 with fail
  generalize (w.alloc (.cells #[.string s1, .slice a1 h1.length c1, .slice a3 z1.length c3] 25)).alloc (.cells #[.string s2, .slice a2 h2.length c2, .slice a4 z2.length c4] 25) = w4 at *
  generalize w.heap.size = gc at C0 C1 ⊢
  have k0 := block_cell C0.out
  have k1 := block_cell C1.out
  have hq0 := HQ.out
  cases q0 with
  | false =>
    go_wp2_with fail
    go_ret
    exact ⟨by rw [HV.out]; rfl, hb4⟩
  | true =>
    go_wp2_with fail
    refine (HE.out w4 hb4).mono ?_
    rintro e w5 ⟨rfl, l5⟩
    clear k0 k1
    have k0 := block_cell (later_keep l5 C0.out)
    have k1 := block_cell (later_keep l5 C1.out)
    cases q1 with
    | false =>
      go_wp2_with fail
      go_ret
      exact ⟨by rw [HV.out]; rfl, Later.trans hb4 l5⟩
    | true =>
      go_wp2_with fail
      refine (HF.out w5 (Later.trans hb4 l5)).mono ?_
      rintro e w6 ⟨rfl, rfl⟩
      go_wp2_with fail
      go_ret
      exact ⟨by rw [HV.out]; simp, Later.trans hb4 l5⟩

def lvV : ByteArray := ⟨#[83, 73, 80, 47, 50, 46, 48, 47, 85, 68, 80, 32, 49, 48, 46, 48, 46, 48, 46, 50, 58, 53, 48, 54, 48, 59, 98, 114, 97, 110, 99, 104, 61, 49]⟩
def lvW : ByteArray := ⟨#[83, 73, 80, 47, 50, 46, 48, 47, 85, 68, 80, 32, 49, 46, 50, 46, 51, 46, 52, 58, 55, 48, 48, 48, 59, 98, 114, 97, 110, 99, 104, 61, 49]⟩
def lvH : List Hr := [(⟨#[86, 105, 97]⟩, lvV), (clN, ⟨#[48]⟩)]
theorem lv_rg : rgB ⟨#[65]⟩ lvH 0 = true := by decide +kernel
theorem lv_rw : rwHs (cgOf 167772162 16909060 5060 7000 []) ⟨#[65]⟩ lvH [] = [(⟨#[86, 105, 97]⟩, lvW), (clN, ⟨#[48]⟩)] := by decide +kernel
theorem lv_sz : (txM ⟨#[65]⟩ lvH []).length = 65 := by decide +kernel

theorem rdH_made (W : World) (l : List Hr) (hl : l.length ≤ 1000) : RdM (W.alloc (.cells (hrs l).toArray 53)).heap.size (W.alloc (.cells (hrs l).toArray 53)) (.slice (some ⟨W.heap.size, 0, none⟩) l.length l.length) l := by
  by_cases hn : l = []
  · subst hn
    exact .inl ⟨_, _, rfl, rfl, by simp, fun h => by cases h⟩
  · refine .inr ⟨W.heap.size, 0, l.length, rfl, hn, Nat.le_refl _, by omega, by simp, fun j hj i hi => ?_⟩
    rw [Nat.zero_add, block_cell (heap_alloc_new W _), ← hrs_at l j i hj hi]
    simp
theorem cg_wf {h t p q : Int} {ml : List (Int × Int)} (hh : 0 ≤ h ∧ h ≤ 4294967295) (ht : 0 ≤ t ∧ t ≤ 4294967295) (hp : 0 ≤ p ∧ p ≤ 65535) (hq : 0 ≤ q ∧ q ≤ 65535) (hm : ∀ m ∈ ml, (0 ≤ m.1 ∧ m.1 ≤ 65535) ∧ (0 ≤ m.2 ∧ m.2 ≤ 65535)) : (cgOf h t p q ml).wf :=
  ⟨⟨by have := adB_size h hh; show (adB h).size ≤ _; omega, by have := adB_size t ht; show (adB t).size ≤ _; omega⟩, hp, hq, hm⟩

set_option maxRecDepth 100000 in
set_option maxHeartbeats 4000000 in
theorem live14_any (w : World) (hT : TabI w) (hM : TabM w) :
    Calls Tryd.prog 9 #[] w fun e w' => e = .returned (.bool true) ∧ Later w w' := by
  have l0 : Later w ((w.alloc (.cells (hrs lvH).toArray 53)).alloc (.cells #[.string ⟨#[65]⟩, .slice (some ⟨w.heap.size, 0, none⟩) 2 2, .slice none 0 0] 25)) := ((Below.refl _ _).alloc (Nat.le_refl _) _).alloc (by simp) _
  have hH0 := (rdH_made w lvH (by decide)).later (later_allocR _ (.cells #[.string ⟨#[65]⟩, .slice (some ⟨w.heap.size, 0, none⟩) 2 2, .slice none 0 0] 25))
  have C0 := hide (heap_alloc_new (w.alloc (.cells (hrs lvH).toArray 53)) (.cells #[.string ⟨#[65]⟩, .slice (some ⟨w.heap.size, 0, none⟩) 2 2, .slice none 0 0] 25))
  rw [World.size_alloc] at C0
  have hH0' : Hid (RdM ((w.alloc (.cells (hrs lvH).toArray 53)).alloc (.cells #[.string ⟨#[65]⟩, .slice (some ⟨w.heap.size, 0, none⟩) 2 2, .slice none 0 0] 25)).heap.size ((w.alloc (.cells (hrs lvH).toArray 53)).alloc (.cells #[.string ⟨#[65]⟩, .slice (some ⟨w.heap.size, 0, none⟩) 2 2, .slice none 0 0] 25)) (.slice (some ⟨w.heap.size, 0, none⟩) 2 2) lvH) := hH0
  clear hH0
  go_enter Tryd.func9, Tryd.ntmps9
  go_upto_region 2 with fail
  change Code.wp _ _ _ _ ((w.alloc (.cells (hrs lvH).toArray 53)).alloc (.cells #[.string ⟨#[65]⟩, .slice (some ⟨w.heap.size, 0, none⟩) 2 2, .slice none 0 0] 25))
  generalize (w.alloc (.cells (hrs lvH).toArray 53)).alloc (.cells #[.string ⟨#[65]⟩, .slice (some ⟨w.heap.size, 0, none⟩) 2 2, .slice none 0 0] 25) = w1 at *
  generalize w.heap.size = gc at *
  have k0 := block_cell C0.out
  have HRW := hide (rewrite14_any 167772162 16909060 5060 7000 [] (.slice none 0 0) ⟨#[65]⟩ (.slice (some ⟨gc, 0, none⟩) 2 2) (.slice none 0 0) lvH [] w1 (hT.later l0) (hM.later l0) (by decide) (by decide) (cg_wf (by decide) (by decide) (by decide) (by decide) (fun m hm => by cases hm)) (.inl ⟨none, 0, rfl, rfl, by omega⟩) hH0'.out (.inl ⟨none, 0, rfl, rfl, by omega, fun _ => rfl⟩) (by decide) (by decide) (by decide +kernel))
  rw [lv_rw] at HRW
  have HBD := hide (fun W (l : Later w1 W) => build14_yes ⟨#[65]⟩ (.slice (some ⟨gc, 0, none⟩) 2 2) (.slice none 0 0) lvH [] W (hT.later (Later.trans l0 l)) (hH0'.out.later l) (.inl ⟨none, 0, rfl, rfl, by omega, fun _ => rfl⟩) (by decide +kernel) lv_rg)
  generalize rwZb (cgOf 167772162 16909060 5060 7000 []) ⟨#[65]⟩ lvH [] = rz at *
  go_wp2_with fail
  refine HRW.out.mono ?_
  rintro e w2 ⟨l2, vh, vb, rfl, hrow, hO⟩
  obtain ⟨va, vc, rfl⟩ := owns_form hrow
  obtain ⟨xa, xc, rfl, _, _⟩ := hO.slice
  clear k0
  have la := later_allocR w2 (.cells #[.string ⟨#[65]⟩, .slice va 2 vc, .slice xa rz.length xc] 25)
  have C1 := hide (heap_alloc_new w2 (.cells #[.string ⟨#[65]⟩, .slice va 2 vc, .slice xa rz.length xc] 25))
  have HR2 := hide ((ownM_rd hrow).later la)
  go_upto_region 3 with fail
  have K3 : Later w1 (w2.alloc (.cells #[.string ⟨#[65]⟩, .slice va 2 vc, .slice xa rz.length xc] 25)) := Later.trans l2 la
  change Code.wp _ _ _ _ (w2.alloc (.cells #[.string ⟨#[65]⟩, .slice va 2 vc, .slice xa rz.length xc] 25))
  generalize w2.alloc (.cells #[.string ⟨#[65]⟩, .slice va 2 vc, .slice xa rz.length xc] 25) = w3 at *
  have hgn : [((⟨#[86, 105, 97]⟩, lvW) : Hr), (clN, ⟨#[48]⟩)].length = 2 := rfl
  generalize w2.heap.size = gn at *
  have k1 := block_cell (later_keep K3 C0.out)
  go_wp2_with fail
  refine (HBD.out w3 K3).mono ?_
  rintro e w4 ⟨l4, v, rfl, hG⟩
  obtain ⟨g, c, e, hg⟩ := hG.form
  rw [lv_sz] at e
  subst e
  clear k1 hG HBD HRW
  have D1 := later_keep l4 C1.out
  have kN := block_cell D1
  obtain ⟨b, off, cp, e, _, _, hbn, hcs⟩ := (HR2.out.later l4).cells (by decide)
  obtain ⟨rfl, rfl⟩ : va = some ⟨b, off, none⟩ ∧ vc = cp := by injection e with h1 h2 h3; exact ⟨h1, h3⟩
  have d1 := hcs 0 (by decide) 1 (by decide)
  have d1' : w4.cell? ⟨b, off + 1, none⟩ = some (.string lvW) := by have := d1; rw [Nat.zero_mul, Nat.add_zero] at this; exact this
  unfold lvW at d1'
  clear hcs d1 e
  go_wp2_with fail
  go_ret
  exact ⟨rfl, Later.trans l0 (Later.trans K3 l4)⟩
end Go.Proofs.YtehdgndbloaljaaDoor

/- The document's texts: plain, name, lower, digits. -/
namespace Go.Proofs.YtehdgndbloaljaaDoor
open Go.RowKit Go.Shelf
set_option maxRecDepth 100000
set_option linter.unusedVariables false
set_option linter.unusedSimpArgs false

theorem bAt_get (s : ByteArray) (i : Nat) (h : i < s.size) : ((s[i]'h).toNat : Int) = bAt s i := by unfold bAt; simp [ByteArray.get!, getElem!_pos, h]; rfl

set_option maxHeartbeats 4000000 in
theorem rplain_any (s : ByteArray) (w : World) (hs : s.size ≤ 9223372036854775807) :
    Calls Tryd.prog 40 #[.string s] w fun e w' => e = .returned (.bool (allB lnC s)) ∧ w' = w := by
  have hs' : (s.size : Int) ≤ 9223372036854775807 := by omega
  go_enter Tryd.func40, Tryd.ntmps40
  go_upto_region 2 with fail
  go_loopw [3] (fun iv wr => ∃ pos : Nat, pos ≤ s.size ∧ iv = .int .i64 (pos : Int) ∧ wr = w ∧ Hid (∀ j, j < pos → lnC (bAt s j) = true)) (fun iv _ => s.size - (intOf iv).toNat)
  case atStart => exact ⟨0, by omega, rfl, rfl, fun j hj => by omega⟩
  case round =>
    obtain ⟨pos, hp, rfl, rfl, HA⟩ := hrel
    by_cases hlt : pos < s.size
    · have hlt1 : (pos : Int) < s.size := by omega
      have hbg := bAt_get s pos hlt
      cases hl : lnC (bAt s pos) with
      | false =>
        have HV := hide (allB_no hlt hl)
        have h13 : bAt s pos = 13 ∨ bAt s pos = 10 := by unfold lnC at hl; simp at hl; omega
        clear hl HA
        rw [← hbg] at h13
        clear hbg
        rcases h13 with h | h
        · have q : ((((s[pos]'hlt).toNat : Nat) : Int) == 13) = true := by simp [h]
          clear h
          go_wp2_with fail
          go_ret
          exact ⟨by rw [HV.out]; rfl, rfl⟩
        · have q : ((((s[pos]'hlt).toNat : Nat) : Int) == 13) = false := by simp [h]
          have q2 : ((((s[pos]'hlt).toNat : Nat) : Int) == 10) = true := by simp [h]
          clear h
          go_wp2_with fail
          go_ret
          exact ⟨by rw [HV.out]; rfl, rfl⟩
      | true =>
        have HN : Hid (∀ j, j < pos + 1 → lnC (bAt s j) = true) := fun j hj => by
          rcases Nat.lt_or_eq_of_le (Nat.lt_succ_iff.1 hj) with h | rfl
          · exact HA.out j h
          · exact hl
        have h13 : ((((s[pos]'hlt).toNat : Nat) : Int) == 13) = false ∧ ((((s[pos]'hlt).toNat : Nat) : Int) == 10) = false := by
          rw [hbg]
          unfold lnC at hl
          simpa using hl
        obtain ⟨q1, q2⟩ := h13
        clear hl HA hbg
        go_wp2_with fail
        go_roundw
        case rel => exact ⟨pos + 1, by omega, by go_num, by first | trivial | rfl, HN⟩
        case measure => simp [intOf]; omega
    · have hnl : ¬ (pos : Int) < s.size := by omega
      have HV := hide (allB_yes (s := s) (p := lnC) (fun j hj => HA.out j (by omega)))
      go_wp2_with fail
      go_ret
      exact ⟨by rw [HV.out]; rfl, rfl⟩

set_option maxHeartbeats 8000000 in
theorem rname_any (s : ByteArray) (w : World) (hs : s.size ≤ 9223372036854775807) :
    Calls Tryd.prog 42 #[.string s] w fun e w' => e = .returned (.bool (allN nmC s)) ∧ w' = w := by
  have hs' : (s.size : Int) ≤ 9223372036854775807 := by omega
  go_enter Tryd.func42, Tryd.ntmps42
  go_upto_region 2 with fail
  go_loopw [3, 4] (fun iv cv wr => ∃ pos : Nat, pos ≤ s.size ∧ iv = .int .i64 (pos : Int) ∧ wr = w ∧ Hid (∀ j, j < pos → nmC (bAt s j) = true)) (fun iv _ _ => s.size - (intOf iv).toNat)
  case atStart => exact ⟨0, by omega, rfl, rfl, fun j hj => by omega⟩
  case round =>
    obtain ⟨pos, hp, rfl, rfl, HA⟩ := hrel
    by_cases hlt : pos < s.size
    · have hlt1 : (pos : Int) < s.size := by omega
      have hbg := bAt_get s pos hlt
      have hN : Hid (nmC (bAt s pos) = true → ∀ j, j < pos + 1 → nmC (bAt s j) = true) := fun hl j hj => by
          rcases Nat.lt_or_eq_of_le (Nat.lt_succ_iff.1 hj) with h | rfl
          · exact HA.out j h
          · exact hl
      have hV : Hid (nmC (bAt s pos) = false → allN nmC s = false) := fun hl => by unfold allN; rw [allB_no hlt hl]; rfl
      have hdef : Hid (nmC (bAt s pos) = ((decide (97 ≤ bAt s pos) && decide (bAt s pos ≤ 122)) || (decide (65 ≤ bAt s pos) && decide (bAt s pos ≤ 90)) || ((decide (48 ≤ bAt s pos) && decide (bAt s pos ≤ 57)) || bAt s pos == 45))) := rfl
      rw [hdef.out] at hN hV
      clear hdef HA
      rw [← hbg] at hN hV
      clear hbg
      have hcr : (0 : Int) ≤ ((s[pos]'hlt).toNat : Int) ∧ ((s[pos]'hlt).toNat : Int) ≤ 255 := by have := (s[pos]'hlt).toNat_lt; omega
      go_upto_region 5 with fail
      generalize (((s[pos]'hlt).toNat : Nat) : Int) = c at *
      by_cases a1 : 97 ≤ c
      · by_cases a2 : c ≤ 122
        · have HN := hide (hN.out (by simp <;> omega)); clear hN hV; go_wp2_with fail; go_roundw; exact ⟨pos + 1, by omega, by go_num, trivial, HN⟩; (simp [intOf]; omega)
        · have a3 : 65 ≤ c := by omega
          have a4 : ¬ c ≤ 90 := by omega
          have a5 : 48 ≤ c := by omega
          have a6 : ¬ c ≤ 57 := by omega
          have a7 : (c == 45) = false := by simp; omega
          have HN := hide (hV.out (by simp <;> omega)); clear hN hV; go_wp2_with fail; go_ret; exact ⟨by rw [HN.out]; rfl, rfl⟩
      · by_cases a3 : 65 ≤ c
        · by_cases a4 : c ≤ 90
          · have HN := hide (hN.out (by simp <;> omega)); clear hN hV; go_wp2_with fail; go_roundw; exact ⟨pos + 1, by omega, by go_num, trivial, HN⟩; (simp [intOf]; omega)
          · have a5 : 48 ≤ c := by omega
            have a6 : ¬ c ≤ 57 := by omega
            have a7 : (c == 45) = false := by simp; omega
            have HN := hide (hV.out (by simp <;> omega)); clear hN hV; go_wp2_with fail; go_ret; exact ⟨by rw [HN.out]; rfl, rfl⟩
        · by_cases a5 : 48 ≤ c
          · by_cases a6 : c ≤ 57
            · have HN := hide (hN.out (by simp <;> omega)); clear hN hV; go_wp2_with fail; go_roundw; exact ⟨pos + 1, by omega, by go_num, trivial, HN⟩; (simp [intOf]; omega)
            · have a7 : (c == 45) = false := by simp; omega
              have HN := hide (hV.out (by simp <;> omega)); clear hN hV; go_wp2_with fail; go_ret; exact ⟨by rw [HN.out]; rfl, rfl⟩
          · by_cases a7 : c = 45
            · subst a7
              have HN := hide (hN.out (by simp <;> omega)); clear hN hV; go_wp2_with fail; go_roundw; exact ⟨pos + 1, by omega, by go_num, trivial, HN⟩; (simp [intOf]; omega)
            · have a8 : (c == 45) = false := by simp [a7]
              have HN := hide (hV.out (by simp <;> omega)); clear hN hV; go_wp2_with fail; go_ret; exact ⟨by rw [HN.out]; rfl, rfl⟩
    · have hnl : ¬ (pos : Int) < s.size := by omega
      have HB : Hid (allB nmC s = true) := allB_yes (fun j hj => HA.out j (by omega))
      clear HA
      by_cases hs0 : s.size = 0
      · have HV : Hid (allN nmC s = false) := by show _ = _; unfold allN; rw [hs0]; simp
        obtain rfl := str_empty s hs0
        go_wp2_with fail
        go_ret
        exact ⟨by rw [HV.out]; rfl, rfl⟩
      · have HV : Hid (allN nmC s = true) := by show _ = _; unfold allN; rw [HB.out]; simp [hs0]
        have hne := str_ne hs0
        go_wp2_with fail
        go_ret
        exact ⟨by rw [HV.out]; rfl, rfl⟩
end Go.Proofs.YtehdgndbloaljaaDoor

/- The document's texts: lower, digits. -/
namespace Go.Proofs.YtehdgndbloaljaaDoor
open Go.RowKit Go.Shelf
set_option maxRecDepth 100000
set_option linter.unusedVariables false
set_option linter.unusedSimpArgs false

/-- A text's bytes with small letters. -/
def lowZ (s : ByteArray) : List Int := (nmsB s).map sml
theorem sml_rng {c : Int} (h : 0 ≤ c ∧ c ≤ 255) : 0 ≤ sml c ∧ sml c ≤ 255 := by unfold sml; split <;> omega
theorem lowZ_by (s : ByteArray) : Mt.By (lowZ s) := fun z hz => by
  simp only [lowZ, List.mem_map] at hz
  obtain ⟨c, hc, rfl⟩ := hz
  exact sml_rng (nmsB_by s c hc)
theorem lowZ_len (s : ByteArray) : (lowZ s).length = s.size := by unfold lowZ; rw [List.length_map, nmsB_len]
theorem swP_iff (s t : ByteArray) (h : s.size = t.size) : ∀ k pos, pos + k = s.size → (swP s t k pos = true ↔ ∀ j, pos ≤ j → j < s.size → sml (bAt s j) = sml (bAt t j))
  | 0, pos, hk => by
    constructor
    · intro _ j h1 h2; omega
    · intro _; rfl
  | k + 1, pos, hk => by
    have e : swP s t (k + 1) pos = if sml (bAt s pos) = sml (bAt t pos) then swP s t k (pos + 1) else false := rfl
    rw [e]
    split
    · rename_i hq
      rw [swP_iff s t h k (pos + 1) (by omega)]
      constructor
      · intro hh j h1 h2
        rcases Nat.eq_or_lt_of_le h1 with rfl | h1
        · exact hq
        · exact hh j h1 h2
      · intro hh j h1 h2; exact hh j (by omega) h2
    · rename_i hq
      constructor
      · intro hh; cases hh
      · intro hh; exact absurd (hh pos (Nat.le_refl _) (by omega)) hq
theorem lowZ_at (s : ByteArray) (j : Nat) (h : j < s.size) : (lowZ s)[j]? = some (sml (bAt s j)) := by
  unfold lowZ
  have h' : j < (nmsB s).length := by rw [nmsB_len]; exact h
  rw [List.getElem?_map, nmsB_at s j h, List.getElem?_eq_getElem h']
  rfl
theorem swV_low (s t : ByteArray) : swV s t = decide (lowZ s = lowZ t) := by
  rw [Bool.eq_iff_iff, decide_eq_true_eq]
  unfold swV
  rw [Bool.and_eq_true, decide_eq_true_eq]
  constructor
  · rintro ⟨h1, h2⟩
    rw [swP_iff s t h1 s.size 0 (by omega)] at h2
    apply List.ext_getElem?
    intro j
    by_cases hj : j < s.size
    · rw [lowZ_at s j hj, lowZ_at t j (by omega), h2 j (by omega) hj]
    · rw [List.getElem?_eq_none (by rw [lowZ_len]; omega), List.getElem?_eq_none (by rw [lowZ_len]; omega)]
  · intro h
    have h1 : s.size = t.size := by rw [← lowZ_len, ← lowZ_len, h]
    refine ⟨h1, (swP_iff s t h1 s.size 0 (by omega)).2 fun j _ hj => ?_⟩
    have := lowZ_at s j hj
    rw [h, lowZ_at t j (by omega)] at this
    exact (Option.some.inj this).symm
/-- Two words are the same, large or small, where their small forms are. -/
theorem low_eq (s t : ByteArray) : eqS (strOfNums (lowZ s)) (strOfNums (lowZ t)) = swV s t := by
  rw [swV_low, Bool.eq_iff_iff, eqS_iff, decide_eq_true_eq]
  constructor
  · intro h
    have := congrArg nmsB h
    rwa [nmsB_str _ (lowZ_by s), nmsB_str _ (lowZ_by t)] at this
  · intro h; rw [h]
theorem low_cl (s : ByteArray) : (ByteArray.toList (strOfNums (lowZ s)) == ByteArray.toList ⟨#[99, 111, 110, 116, 101, 110, 116, 45, 108, 101, 110, 103, 116, 104]⟩) = swV s clN := by
  rw [str_beq, ← low_eq]
  congr 1

set_option maxRecDepth 100000 in
set_option maxHeartbeats 8000000 in
theorem rlower_any (s : ByteArray) (w : World) (hs : s.size ≤ 140737488355328) :
    Calls Tryd.prog 43 #[.string s] w fun e w' => e = .returned (.string (strOfNums (lowZ s))) ∧ Later w w' := by
  obtain ⟨i0, hi0, hz0, hz1, hz2⟩ := info_partsS info_u8
  have hs' : (s.size : Int) ≤ 140737488355328 := by omega
  go_enter Tryd.func43, Tryd.ntmps43
  go_upto_region 3 with fail
  go_loopw [3, 4, 5] (fun bv iv cv wr => ∃ pos : Nat, pos ≤ s.size ∧ iv = .int .i64 (pos : Int) ∧ Below w.heap.size w wr ∧ Hid (wr.ownsRow w.heap.size 5 1 bv ((lowZ s).take pos).length (((lowZ s).take pos).map (Value.int .u8)))) (fun _ iv _ _ => s.size - (intOf iv).toNat)
  case atStart => exact ⟨0, by omega, rfl, Below.refl _ _, ⟨rfl, .inl ⟨rfl, rfl⟩⟩⟩
  case round =>
    obtain ⟨pos, hp, rfl, lr, HO⟩ := hrel
    by_cases hlt : pos < s.size
    · have hlt1 : (pos : Int) < s.size := by omega
      have hbg := bAt_get s pos hlt
      have HS : Hid ((lowZ s).take (pos + 1) = (lowZ s).take pos ++ [sml (bAt s pos)]) := by
        show _ = _
        have h' : pos < (lowZ s).length := by rw [lowZ_len]; exact hlt
        rw [List.take_succ_eq_append_getElem h']
        have := lowZ_at s pos hlt
        rw [List.getElem?_eq_getElem h'] at this
        rw [Option.some.inj this]
      have HML : Hid (((lowZ s).take pos).length = pos) := by show _ = _; rw [List.length_take, lowZ_len]; omega
      generalize (lowZ s).take pos = M at *
      rw [← hbg] at HS
      clear hbg
      have hcr : (0 : Int) ≤ ((s[pos]'hlt).toNat : Int) ∧ ((s[pos]'hlt).toNat : Int) ≤ 255 := by have := (s[pos]'hlt).toNat_lt; omega
      have hM1 : M.length ≤ 140737488355327 := by rw [HML.out]; omega
      go_upto_region 6 with fail
      generalize (((s[pos]'hlt).toNat : Nat) : Int) = c at *
      by_cases a1 : 65 ≤ c
      · by_cases a2 : c ≤ 90
        · have hsm : sml c = c + 32 := by unfold sml; rw [if_pos ⟨a1, a2⟩]
          rw [hsm] at HS
          clear hsm
          go_upto_region 8 with fail
          have hcr2 : 0 ≤ c + 32 ∧ c + 32 ≤ 255 := by omega
          generalize c + 32 = d at *
          clear a1 a2 hcr
          have la := later_allocR wr (.cells #[.int .u8 d] 5); have HO1 := hide (ownsS_later HO.out la); have hb1 : w.heap.size ≤ (wr.alloc (.cells #[.int .u8 d] 5)).heap.size := (lr.trans (la.mono lr.size)).size; have HRD : Hid (Rd (wr.alloc (.cells #[.int .u8 d] 5)).heap.size (wr.alloc (.cells #[.int .u8 d] 5)) (.slice (some ⟨wr.heap.size, 0, none⟩) 1 1) [d]) := rd_mark [d] 5 (0, 0) wr (by simp) (by simp); obtain ⟨v2, w2, hrun, hown2, hgb⟩ := run_app (wr.alloc (.cells #[.int .u8 d] 5)) 22 22 5 w.heap.size i0 Tryd.underlying22 hi0 hz0 hz1 hz2 _ M HO1.out (wr.alloc (.cells #[.int .u8 d] 5)).heap.size (.slice (some ⟨wr.heap.size, 0, none⟩) 1 1) [d] HRD.out (by simp; omega) hb1; obtain ⟨va2, vc2, rfl⟩ := owns_form hown2; obtain ⟨va1, vc1, rfl⟩ := owns_form HO1.out; have l2 : Below w.heap.size w w2 := grown_later hgb (lr.trans (la.mono lr.size)) hb1 (fun k hk => (HO1.out.lt k hk).1); have HRUN := hide hrun; have HO2 := hide hown2; clear hrun hown2 hgb; generalize hm2 : (M ++ [d]).length = m2 at HRUN HO2; have HM2 := hide hm2; clear hm2; go_wp2_with (at_builtin; refine wpList_appw rfl (.tmp 23) (.tmp 25) 22 rfl _ _ rfl rfl _ w2 HRUN.out ?_); go_roundw; exact ⟨pos + 1, by omega, by go_num, l2, by rw [HS.out, HM2.out]; exact HO2⟩; (simp [intOf]; omega)
        · have hsm : sml c = c := by unfold sml; rw [if_neg (by omega)]
          rw [hsm] at HS
          clear hsm
          go_upto_region 8 with fail
          clear a1 a2
          generalize c = d at *
          have la := later_allocR wr (.cells #[.int .u8 d] 5); have HO1 := hide (ownsS_later HO.out la); have hb1 : w.heap.size ≤ (wr.alloc (.cells #[.int .u8 d] 5)).heap.size := (lr.trans (la.mono lr.size)).size; have HRD : Hid (Rd (wr.alloc (.cells #[.int .u8 d] 5)).heap.size (wr.alloc (.cells #[.int .u8 d] 5)) (.slice (some ⟨wr.heap.size, 0, none⟩) 1 1) [d]) := rd_mark [d] 5 (0, 0) wr (by simp) (by simp); obtain ⟨v2, w2, hrun, hown2, hgb⟩ := run_app (wr.alloc (.cells #[.int .u8 d] 5)) 22 22 5 w.heap.size i0 Tryd.underlying22 hi0 hz0 hz1 hz2 _ M HO1.out (wr.alloc (.cells #[.int .u8 d] 5)).heap.size (.slice (some ⟨wr.heap.size, 0, none⟩) 1 1) [d] HRD.out (by simp; omega) hb1; obtain ⟨va2, vc2, rfl⟩ := owns_form hown2; obtain ⟨va1, vc1, rfl⟩ := owns_form HO1.out; have l2 : Below w.heap.size w w2 := grown_later hgb (lr.trans (la.mono lr.size)) hb1 (fun k hk => (HO1.out.lt k hk).1); have HRUN := hide hrun; have HO2 := hide hown2; clear hrun hown2 hgb; generalize hm2 : (M ++ [d]).length = m2 at HRUN HO2; have HM2 := hide hm2; clear hm2; go_wp2_with (at_builtin; refine wpList_appw rfl (.tmp 23) (.tmp 25) 22 rfl _ _ rfl rfl _ w2 HRUN.out ?_); go_roundw; exact ⟨pos + 1, by omega, by go_num, l2, by rw [HS.out, HM2.out]; exact HO2⟩; (simp [intOf]; omega)
      · have hsm : sml c = c := by unfold sml; rw [if_neg (by omega)]
        rw [hsm] at HS
        clear hsm
        go_upto_region 8 with fail
        clear a1
        generalize c = d at *
        have la := later_allocR wr (.cells #[.int .u8 d] 5); have HO1 := hide (ownsS_later HO.out la); have hb1 : w.heap.size ≤ (wr.alloc (.cells #[.int .u8 d] 5)).heap.size := (lr.trans (la.mono lr.size)).size; have HRD : Hid (Rd (wr.alloc (.cells #[.int .u8 d] 5)).heap.size (wr.alloc (.cells #[.int .u8 d] 5)) (.slice (some ⟨wr.heap.size, 0, none⟩) 1 1) [d]) := rd_mark [d] 5 (0, 0) wr (by simp) (by simp); obtain ⟨v2, w2, hrun, hown2, hgb⟩ := run_app (wr.alloc (.cells #[.int .u8 d] 5)) 22 22 5 w.heap.size i0 Tryd.underlying22 hi0 hz0 hz1 hz2 _ M HO1.out (wr.alloc (.cells #[.int .u8 d] 5)).heap.size (.slice (some ⟨wr.heap.size, 0, none⟩) 1 1) [d] HRD.out (by simp; omega) hb1; obtain ⟨va2, vc2, rfl⟩ := owns_form hown2; obtain ⟨va1, vc1, rfl⟩ := owns_form HO1.out; have l2 : Below w.heap.size w w2 := grown_later hgb (lr.trans (la.mono lr.size)) hb1 (fun k hk => (HO1.out.lt k hk).1); have HRUN := hide hrun; have HO2 := hide hown2; clear hrun hown2 hgb; generalize hm2 : (M ++ [d]).length = m2 at HRUN HO2; have HM2 := hide hm2; clear hm2; go_wp2_with (at_builtin; refine wpList_appw rfl (.tmp 23) (.tmp 25) 22 rfl _ _ rfl rfl _ w2 HRUN.out ?_); go_roundw; exact ⟨pos + 1, by omega, by go_num, l2, by rw [HS.out, HM2.out]; exact HO2⟩; (simp [intOf]; omega)
    · obtain rfl : pos = s.size := by omega
      have hnl : ¬ ((s.size : Nat) : Int) < s.size := by omega
      rw [show (lowZ s).take s.size = lowZ s from List.take_of_length_le (by rw [lowZ_len]; exact Nat.le_refl _)] at HO
      have hcv := conv_rd 22 9 5 Tryd.underlying22 Tryd.underlying5 Tryd.underlying9 (Ow.of_row HO.out).rd
      obtain ⟨va, vc, rfl⟩ := owns_form HO.out
      have HW : Hid (Later w wr) := lr
      clear HO lr
      generalize (lowZ s).length = nl at *
      generalize hrs : strOfNums (lowZ s) = rs at *
      have HRS := hide hrs
      clear hrs
      go_wp2_with fail
      go_ret
      exact ⟨by rw [HRS.out]; rfl, HW.out⟩

theorem decB_small {n : Nat} (h : n < 10) : decB n = strOfNums [48 + (n : Int)] := by
  have := dg_small h
  rw [← str_nmsB (decB n), show nmsB (decB n) = dg n from rfl, this]
theorem decB_big {n : Nat} (h : 10 ≤ n) : decB n = decB (n / 10) ++ strOfNums [48 + ((n % 10 : Nat) : Int)] := by
  have := dg_big h
  apply ba_ext
  have h1 : ∀ s t : ByteArray, nmsB s = nmsB t → s = t := fun s t h => by rw [← str_nmsB s, ← str_nmsB t, h]
  rw [h1 (decB n) (decB (n / 10) ++ strOfNums [48 + ((n % 10 : Nat) : Int)]) (by
    rw [nmsB_app, nmsB_str _ (fun z hz => by simp at hz; subst hz; omega)]
    exact this)]
theorem rd_one (W : World) (d : Int) : Rd (W.alloc (.cells #[.int .u8 d] 5)).heap.size (W.alloc (.cells #[.int .u8 d] 5)) (.slice (some ⟨W.heap.size, 0, none⟩) 1 1) [d] := rd_mark [d] 5 (0, 0) W (by simp) (by simp)
theorem wrI {x : Int} (h1 : -9223372036854775808 ≤ x) (h2 : x ≤ 9223372036854775807) : IntKind.i64.wrap x = x := by
  unfold IntKind.wrap
  simp [IntKind.signed, IntKind.bits]
  omega
theorem wrB {x : Int} (h1 : 0 ≤ x) (h2 : x ≤ 255) : IntKind.u8.wrap x = x := by
  unfold IntKind.wrap
  simp [IntKind.signed, IntKind.bits]
  omega
/-- A number as the document writes it. -/
def DigsAt (n : Nat) : Prop := ∀ w : World, Calls Tryd.prog 44 #[.int .i64 (n : Int)] w fun e w' => e = .returned (.string (decB n)) ∧ Later w w'

set_option maxRecDepth 100000 in
set_option maxHeartbeats 8000000 in
theorem rdigits_step (n : Nat) (hn : n ≤ 9223372036854775807) (hi : 10 ≤ n → DigsAt (n / 10)) : DigsAt n := by
  intro w
  have hn' : (n : Int) ≤ 9223372036854775807 := by omega
  by_cases h10 : n < 10
  · have h1 : (n : Int) < 10 := by omega
    have HV := hide (decB_small h10)
    go_enter Tryd.func44, Tryd.ntmps44
    have hcv := conv_rd 22 9 5 Tryd.underlying22 Tryd.underlying5 Tryd.underlying9 (rd_one w (48 + (n : Int)))
    generalize hrs : strOfNums [48 + (n : Int)] = rs at *
    go_wp2_with fail
    go_ret
    exact ⟨by rw [HV.out]; rfl, later_allocR _ _⟩
  · have h1 : ¬ (n : Int) < 10 := by omega
    have HV := hide (decB_big (n := n) (by omega))
    have HI := hide (hi (by omega))
    have hds : (decB (n / 10)).size ≤ 20 := decB_len _ (by omega)
    go_enter Tryd.func44, Tryd.ntmps44
    go_upto_region 3 with fail
    refine anyR_begin (R := Later) Later.pre Later.drew 11 rfl (by kernel_rfl) (fun V0 hV0 => ?_)
    refine anyR_val Later.pre 0 rfl (by kernel_rfl) (by kernel_rfl) (by kernel_rfl) (fun _ _ _ _ h => h) rfl ?_; apply Exists.intro; refine ⟨fun v1 hv1 => ?_, ?_⟩; (· (go_simp; rfl)); simp only [Act.put, List.setIfInBounds_toArray, List.set_cons_zero, List.set_cons_succ]
    refine anyR_val Later.pre 3 rfl (by kernel_rfl) (by kernel_rfl) (by kernel_rfl) (fun _ _ _ _ h => h) rfl ?_; apply Exists.intro; refine ⟨fun v1 hv1 => ?_, ?_⟩; (· (go_simp; rfl)); simp only [Act.put, List.setIfInBounds_toArray, List.set_cons_zero, List.set_cons_succ]
    refine anyR_val Later.pre 1 rfl (by kernel_rfl) (by kernel_rfl) (by kernel_rfl) (fun _ _ _ _ h => h) rfl ?_; apply Exists.intro; refine ⟨fun v1 hv1 => ?_, ?_⟩; (· (go_simp; rfl)); simp only [Act.put, List.setIfInBounds_toArray, List.set_cons_zero, List.set_cons_succ]
    refine anyR_val Later.pre 4 rfl (by kernel_rfl) (by kernel_rfl) (by kernel_rfl) (fun _ _ _ _ h => h) rfl ?_; apply Exists.intro; refine ⟨fun v1 hv1 => ?_, ?_⟩; (· (go_simp; rfl)); simp only [Act.put, List.setIfInBounds_toArray, List.set_cons_zero, List.set_cons_succ]
    have e1 : IntKind.i64.wrap ((n : Int) / 10) = ((n / 10 : Nat) : Int) := by
      have h : (n : Int) / 10 = ((n / 10 : Nat) : Int) := by omega
      rw [h]
      exact wrI (by omega) (by omega)
    have e2 : (n : Int).tmod 10 = ((n % 10 : Nat) : Int) := by rw [Int.tmod_eq_emod_of_nonneg (by omega)]; omega
    simp only [e1, e2]
    clear e1 e2
    have hm9 : n % 10 ≤ 9 := by omega
    generalize n % 10 = r at *
    generalize n / 10 = q at *
    have hm9' : (r : Int) ≤ 9 := by omega
    refine anyR_take Later.pre 2 (.string (decB q)) rfl (by kernel_rfl) (by kernel_rfl) (by kernel_rfl) (fun _ _ _ h => h) rfl (fun u hu => goes_call 44 #[.int .i64 (q : Int)] (by go_simp) (HI.out u)) ?_
    simp only [Act.put, List.setIfInBounds_toArray, List.set_cons_zero, List.set_cons_succ]
    refine anyR_val Later.pre 5 rfl (by kernel_rfl) (by kernel_rfl) (by kernel_rfl) (fun _ _ _ _ h => h) rfl ?_; apply Exists.intro; refine ⟨fun v1 hv1 => ?_, ?_⟩; (· (go_simp; rfl)); simp only [Act.put, List.setIfInBounds_toArray, List.set_cons_zero, List.set_cons_succ]
    refine anyR_val Later.pre 6 rfl (by kernel_rfl) (by kernel_rfl) (by kernel_rfl) (fun _ _ _ _ h => h) rfl ?_; apply Exists.intro; refine ⟨fun v1 hv1 => ?_, ?_⟩; (· (go_simp; rfl)); simp only [Act.put, List.setIfInBounds_toArray, List.set_cons_zero, List.set_cons_succ]
    simp only [wrI (x := 48 + (r : Int)) (by omega) (by omega), wrB (x := 48 + (r : Int)) (by omega) (by omega)]
    refine anyR_one 7 rfl (by kernel_rfl) rfl (fun V1 hV1 => ?_)
    unfold Oper.wp
    go_simp
    have l2 := later_allocR V1 (.cells #[.int .u8 (48 + (r : Int))] 5)
    have HR := hide (rd_one V1 (48 + (r : Int)))
    refine ⟨l2, ?_⟩
    change wpAnyR _ _ _ _ _ _ _ _ (V1.alloc (.cells #[.int .u8 (48 + (r : Int))] 5))
    generalize V1.alloc (.cells #[.int .u8 (48 + (r : Int))] 5) = V2 at *
    have qc : ∀ u, Later V2 u → (convert 22 9 (.slice (some ⟨V1.heap.size, 0, none⟩) 1 1)).run Tryd.prog u = .ok (.string (strOfNums [48 + (r : Int)])) u := fun u hu => conv_rd 22 9 5 Tryd.underlying22 Tryd.underlying5 Tryd.underlying9 (HR.out.later hu)
    have hss : (strOfNums [48 + (r : Int)]).size = 1 := strOfNums_size _
    have hss2 : (strOfNums [48 + (r : Int)]).size ≤ 1 := by omega
    clear hss
    generalize strOfNums [48 + (r : Int)] = rs at *
    generalize V1.heap.size = g1 at *
    generalize decB q = dq at *
    refine anyR_val Later.pre 8 rfl (by kernel_rfl) (by kernel_rfl) (by kernel_rfl) (fun _ _ _ _ h => h) rfl ?_; apply Exists.intro; refine ⟨fun v1 hv1 => ?_, ?_⟩; (· (go_simp; rfl)); simp only [Act.put, List.setIfInBounds_toArray, List.set_cons_zero, List.set_cons_succ]
    clear qc
    refine anyR_val Later.pre 9 rfl (by kernel_rfl) (by kernel_rfl) (by kernel_rfl) (fun _ _ _ _ h => h) rfl ⟨.string (dq ++ rs), fun v1 hv1 => (by go_simp; omega), ?_⟩; simp only [Act.put, List.setIfInBounds_toArray, List.set_cons_zero, List.set_cons_succ]
    refine anyR_val Later.pre 10 rfl (by kernel_rfl) (by kernel_rfl) (by kernel_rfl) (fun _ _ _ _ h => h) rfl ?_; apply Exists.intro; refine ⟨fun v1 hv1 => ?_, ?_⟩; (· (go_simp; rfl)); simp only [Act.put, List.setIfInBounds_toArray, List.set_cons_zero, List.set_cons_succ]
    refine anyR_done (by kernel_rfl) (fun V9 hV9 => ?_)
    have L9 : Later w V9 := hV0.trans (hV1.trans (l2.trans hV9))
    go_wp2_with fail
    go_ret
    exact ⟨by rw [HV.out]; rfl, L9⟩
theorem rdigits_any (n : Nat) (hn : n ≤ 9223372036854775807) : DigsAt n := by
  induction n using Nat.strongRecOn with
  | ind n ih => exact rdigits_step n hn (fun h => ih (n / 10) (by omega) (by omega))
end Go.Proofs.YtehdgndbloaljaaDoor

/- The document's size and Right. -/
namespace Go.Proofs.YtehdgndbloaljaaDoor
open Go.RowKit Go.Shelf
set_option maxRecDepth 100000
set_option linter.unusedVariables false
set_option linter.unusedSimpArgs false

/-- A size: more than 4096 or not, as the message's. -/
def SzQ (n : Nat) (e : Ending) : Prop := ∃ r : Int, e = .returned (.int .i64 r) ∧ decide (4096 < r) = decide (4096 < n)

set_option maxRecDepth 100000 in
set_option maxHeartbeats 8000000 in
theorem rsize_any (st : ByteArray) (hs : List Hr) (sv sb : Value) (zb : List Int) (w : World) (hI : RdM w.heap.size w sv hs) (hB : Rd w.heap.size w sb zb) (hz : szM st hs zb.length ≤ 9000000000000000000) :
    Calls Tryd.prog 41 #[.agg #[.string st, sv, sb]] w fun e w' => SzQ (szM st hs zb.length) e ∧ Later w w' := by
  obtain ⟨ah, ch, rfl, hl1, hm1⟩ := hI.slice
  obtain ⟨ab, cb, rfl, hl2, hm2⟩ := hB.slice
  have l0 : Later w (w.alloc (.cells #[.string st, .slice ah hs.length ch, .slice ab zb.length cb] 31)) := later_allocR _ _
  have C0 := hide (heap_alloc_new w (.cells #[.string st, .slice ah hs.length ch, .slice ab zb.length cb] 31))
  have HL := hsz_len hs
  have HZ : Hid (szM st hs zb.length = st.size + 2 + hsz hs + 2 + zb.length) := rfl
  have hz2 : st.size + 2 + hsz hs + 2 + zb.length ≤ 9000000000000000000 := hz
  generalize szM st hs zb.length = sz at *
  go_enter Tryd.func41, Tryd.ntmps41
  go_upto_region 1 with fail
  generalize w.alloc _ = w0 at *
  have HI := hide (hI.later l0)
  generalize w.heap.size = gm at *
  have k0 := block_cell C0.out
  go_upto_region 3 with fail
  clear k0
  go_loopw [3, 4] (fun nv iv wr => ∃ k : Nat, k ≤ hs.length ∧ iv = .int .i64 (k : Int) ∧ nv = .int .i64 ((st.size + 4 + zb.length + hsz (hs.take k) : Nat) : Int) ∧ Later w0 wr) (fun _ iv _ => hs.length - (intOf iv).toNat)
  case atStart => exact ⟨0, by omega, rfl, by simp [hsz], Later.refl _⟩
  case round =>
    obtain ⟨k, hk, rfl, rfl, lr⟩ := hrel
    have hle0 := hsz_take_le hs k
    have k1 := block_cell (later_keep lr C0.out)
    by_cases hlt : k < hs.length
    · have hlt' : (k : Int) < (hs.length : Int) := by omega
      by_cases h4 : st.size + 4 + zb.length + hsz (hs.take k) ≤ 4096
      · have h4' : ((st.size + 4 + zb.length + hsz (hs.take k) : Nat) : Int) ≤ 4096 := by omega
        obtain ⟨b, off, cp, e, _, _, hbn, hcs⟩ := (HI.out.below lr).cells (by omega)
        cases e
        have d0 := hcs k hlt 0 (by omega)
        have d1 := hcs k hlt 1 (by omega)
        have hsn : hs.take (k + 1) = hs.take k ++ [hs[k]] := by rw [← List.take_append_getElem hlt]
        have hsz1 : hsz (hs.take (k + 1)) = hsz (hs.take k) + (hs[k].1.size + 2 + hs[k].2.size + 2) := by rw [hsn, hsz_snoc]
        have hle := hsz_take_le hs (k + 1)
        clear hcs hsn
        generalize hs[k] = r at *
        obtain ⟨x, y⟩ := r
        simp only [hrc, List.getElem?_cons_zero, List.getElem?_cons_succ, Nat.add_zero] at d0 d1 hsz1
        have HS1 := hide hsz1
        rw [hsz1] at hle
        clear hsz1 h4 hle0
        generalize hn0 : st.size + 4 + zb.length + hsz (hs.take k) = n0 at *
        have HN0 := hide hn0
        have hxy : n0 + (x.size + y.size + 4) ≤ 9000000000000000000 := by omega
        clear hn0 hle
        go_upto_region 5 with fail
        clear k1
        refine anyR_begin (R := Later) Later.pre Later.drew 19 rfl (by kernel_rfl) (fun V0 hV0 => ?_)
        have k1 : ∀ v, Later V0 v → ∀ j, v.cell? ⟨gm, j, none⟩ = #[.string st, .slice (some ⟨b, off, none⟩) hs.length ch, .slice ab zb.length cb][j]? := fun v hv => block_cell (later_keep (lr.trans (hV0.trans hv)) C0.out)
        have q0 : ∀ v, Later V0 v → v.cell? ⟨b, off + k * 2, none⟩ = some (.string x) := fun v hv => (hV0.trans hv).cell d0
        have q1 : ∀ v, Later V0 v → v.cell? ⟨b, off + k * 2 + 1, none⟩ = some (.string y) := fun v hv => (hV0.trans hv).cell d1
        clear d0 d1
        refine anyR_val Later.pre 0 rfl (by kernel_rfl) (by kernel_rfl) (by kernel_rfl) (fun _ _ _ _ h => h) rfl ?_; apply Exists.intro; refine ⟨fun v1 hv1 => ?_, ?_⟩; (· (go_simp; rfl)); simp only [Act.put, List.setIfInBounds_toArray, List.set_cons_zero, List.set_cons_succ]
        refine anyR_val Later.pre 1 rfl (by kernel_rfl) (by kernel_rfl) (by kernel_rfl) (fun _ _ _ _ h => h) rfl ?_; apply Exists.intro; refine ⟨fun v1 hv1 => ?_, ?_⟩; (· (go_simp; rfl)); simp only [Act.put, List.setIfInBounds_toArray, List.set_cons_zero, List.set_cons_succ]
        refine anyR_val Later.pre 2 rfl (by kernel_rfl) (by kernel_rfl) (by kernel_rfl) (fun _ _ _ _ h => h) rfl ?_; apply Exists.intro; refine ⟨fun v1 hv1 => ?_, ?_⟩; (· (go_simp; rfl)); simp only [Act.put, List.setIfInBounds_toArray, List.set_cons_zero, List.set_cons_succ]
        refine anyR_val Later.pre 3 rfl (by kernel_rfl) (by kernel_rfl) (by kernel_rfl) (fun _ _ _ _ h => h) rfl ?_; apply Exists.intro; refine ⟨fun v1 hv1 => ?_, ?_⟩; (· (go_simp; rfl)); simp only [Act.put, List.setIfInBounds_toArray, List.set_cons_zero, List.set_cons_succ]
        refine anyR_val Later.pre 4 rfl (by kernel_rfl) (by kernel_rfl) (by kernel_rfl) (fun _ _ _ _ h => h) rfl ?_; apply Exists.intro; refine ⟨fun v1 hv1 => ?_, ?_⟩; (· (go_simp; rfl)); simp only [Act.put, List.setIfInBounds_toArray, List.set_cons_zero, List.set_cons_succ]
        refine anyR_val Later.pre 5 rfl (by kernel_rfl) (by kernel_rfl) (by kernel_rfl) (fun _ _ _ _ h => h) rfl ?_; apply Exists.intro; refine ⟨fun v1 hv1 => ?_, ?_⟩; (· (go_simp; rfl)); simp only [Act.put, List.setIfInBounds_toArray, List.set_cons_zero, List.set_cons_succ]
        refine anyR_val Later.pre 6 rfl (by kernel_rfl) (by kernel_rfl) (by kernel_rfl) (fun _ _ _ _ h => h) rfl ?_; apply Exists.intro; refine ⟨fun v1 hv1 => ?_, ?_⟩; (· (go_simp; rfl)); simp only [Act.put, List.setIfInBounds_toArray, List.set_cons_zero, List.set_cons_succ]
        refine anyR_val Later.pre 7 rfl (by kernel_rfl) (by kernel_rfl) (by kernel_rfl) (fun _ _ _ _ h => h) rfl ?_; apply Exists.intro; refine ⟨fun v1 hv1 => ?_, ?_⟩; (· (go_simp; rfl)); simp only [Act.put, List.setIfInBounds_toArray, List.set_cons_zero, List.set_cons_succ]
        refine anyR_val Later.pre 8 rfl (by kernel_rfl) (by kernel_rfl) (by kernel_rfl) (fun _ _ _ _ h => h) rfl ?_; apply Exists.intro; refine ⟨fun v1 hv1 => ?_, ?_⟩; (· (go_simp; rfl)); simp only [Act.put, List.setIfInBounds_toArray, List.set_cons_zero, List.set_cons_succ]
        refine anyR_val Later.pre 9 rfl (by kernel_rfl) (by kernel_rfl) (by kernel_rfl) (fun _ _ _ _ h => h) rfl ?_; apply Exists.intro; refine ⟨fun v1 hv1 => ?_, ?_⟩; (· (go_simp; rfl)); simp only [Act.put, List.setIfInBounds_toArray, List.set_cons_zero, List.set_cons_succ]
        refine anyR_val Later.pre 10 rfl (by kernel_rfl) (by kernel_rfl) (by kernel_rfl) (fun _ _ _ _ h => h) rfl ?_; apply Exists.intro; refine ⟨fun v1 hv1 => ?_, ?_⟩; (· (go_simp; rfl)); simp only [Act.put, List.setIfInBounds_toArray, List.set_cons_zero, List.set_cons_succ]
        refine anyR_val Later.pre 11 rfl (by kernel_rfl) (by kernel_rfl) (by kernel_rfl) (fun _ _ _ _ h => h) rfl ?_; apply Exists.intro; refine ⟨fun v1 hv1 => ?_, ?_⟩; (· (go_simp; rfl)); simp only [Act.put, List.setIfInBounds_toArray, List.set_cons_zero, List.set_cons_succ]
        refine anyR_val Later.pre 12 rfl (by kernel_rfl) (by kernel_rfl) (by kernel_rfl) (fun _ _ _ _ h => h) rfl ?_; apply Exists.intro; refine ⟨fun v1 hv1 => ?_, ?_⟩; (· (go_simp; rfl)); simp only [Act.put, List.setIfInBounds_toArray, List.set_cons_zero, List.set_cons_succ]
        refine anyR_val Later.pre 13 rfl (by kernel_rfl) (by kernel_rfl) (by kernel_rfl) (fun _ _ _ _ h => h) rfl ?_; apply Exists.intro; refine ⟨fun v1 hv1 => ?_, ?_⟩; (· (go_simp; rfl)); simp only [Act.put, List.setIfInBounds_toArray, List.set_cons_zero, List.set_cons_succ]
        refine anyR_val Later.pre 14 rfl (by kernel_rfl) (by kernel_rfl) (by kernel_rfl) (fun _ _ _ _ h => h) rfl ?_; apply Exists.intro; refine ⟨fun v1 hv1 => ?_, ?_⟩; (· (go_simp; rfl)); simp only [Act.put, List.setIfInBounds_toArray, List.set_cons_zero, List.set_cons_succ]
        refine anyR_val Later.pre 15 rfl (by kernel_rfl) (by kernel_rfl) (by kernel_rfl) (fun _ _ _ _ h => h) rfl ?_; apply Exists.intro; refine ⟨fun v1 hv1 => ?_, ?_⟩; (· (go_simp; rfl)); simp only [Act.put, List.setIfInBounds_toArray, List.set_cons_zero, List.set_cons_succ]
        refine anyR_val Later.pre 16 rfl (by kernel_rfl) (by kernel_rfl) (by kernel_rfl) (fun _ _ _ _ h => h) rfl ?_; apply Exists.intro; refine ⟨fun v1 hv1 => ?_, ?_⟩; (· (go_simp; rfl)); simp only [Act.put, List.setIfInBounds_toArray, List.set_cons_zero, List.set_cons_succ]
        refine anyR_val Later.pre 17 rfl (by kernel_rfl) (by kernel_rfl) (by kernel_rfl) (fun _ _ _ _ h => h) rfl ?_; apply Exists.intro; refine ⟨fun v1 hv1 => ?_, ?_⟩; (· (go_simp; rfl)); simp only [Act.put, List.setIfInBounds_toArray, List.set_cons_zero, List.set_cons_succ]
        refine anyR_val Later.pre 18 rfl (by kernel_rfl) (by kernel_rfl) (by kernel_rfl) (fun _ _ _ _ h => h) rfl ?_; apply Exists.intro; refine ⟨fun v1 hv1 => ?_, ?_⟩; (· (go_simp; rfl)); simp only [Act.put, List.setIfInBounds_toArray, List.set_cons_zero, List.set_cons_succ]
        clear k1 q0 q1
        refine anyR_done (by kernel_rfl) (fun V9 hV9 => ?_)
        have L9 : Later w0 V9 := lr.trans (hV0.trans hV9)
        have e1 := wrI (x := (x.size : Int) + (y.size : Int)) (by omega) (by omega)
        have e2 := wrI (x := (x.size : Int) + (y.size : Int) + 4) (by omega) (by omega)
        have e3 := wrI (x := (n0 : Int) + ((x.size : Int) + (y.size : Int) + 4)) (by omega) (by omega)
        simp only [e1, e2, e3]
        clear e1 e2 e3
        go_wp2_with fail
        go_roundw
        case rel => exact ⟨k + 1, by omega, by go_num, by rw [HS1.out]; congr 1; have := HN0.out; omega, L9⟩
        case measure => simp [intOf]; omega
      · have h4' : ¬ ((st.size + 4 + zb.length + hsz (hs.take k) : Nat) : Int) ≤ 4096 := by omega
        have HV : Hid (decide (4096 < ((st.size + 4 + zb.length + hsz (hs.take k) : Nat) : Int)) = decide (4096 < sz)) := by show _ = _; rw [decide_eq_true (by omega), decide_eq_true (by have := HZ.out; omega)]
        clear h4
        generalize st.size + 4 + zb.length + hsz (hs.take k) = n0 at *
        go_wp2_with fail
        go_ret
        exact ⟨⟨_, rfl, HV.out⟩, Later.trans l0 lr⟩
    · obtain rfl : k = hs.length := by omega
      have hnl : ¬ ((hs.length : Nat) : Int) < (hs.length : Int) := by omega
      rw [List.take_length]
      have HV : Hid (decide (4096 < ((st.size + 4 + zb.length + hsz hs : Nat) : Int)) = decide (4096 < sz)) := by show _ = _; rw [decide_eq_decide]; have := HZ.out; omega
      generalize st.size + 4 + zb.length + hsz hs = n0 at *
      go_wp2_with fail
      go_ret
      exact ⟨⟨_, rfl, HV.out⟩, Later.trans l0 lr⟩

/-- A value with a blank ahead or behind. -/
theorem vl_blank (v : ByteArray) (h : v.size ≠ 0) : (Lib.hasPrefix v.data.toList [32] = (bAt v 0 == 32)) ∧ (Lib.hasSuffix v.data.toList [32] = (bAt v (v.size - 1) == 32)) := by
  have hl : v.data.toList.length = v.size := (ba_len v).symm
  constructor
  · unfold Lib.hasPrefix bAt
    cases hv : v.data.toList with
    | nil => rw [hv] at hl; simp at hl; omega
    | cons a l =>
      have : v.get! 0 = a := by
        have h0 : 0 < v.data.size := by show 0 < v.size; omega
        simp only [ByteArray.get!]
        rw [getElem!_pos v.data 0 h0, ← Array.getElem_toList]
        simp [hv]
      rw [this, Bool.eq_iff_iff]
      simp only [List.isPrefixOf, Bool.and_true, beq_iff_eq]
      constructor
      · intro e; rw [← e]; rfl
      · intro e; apply UInt8.toNat_inj.1; have : (32 : UInt8).toNat = 32 := rfl; omega
  · unfold Lib.hasSuffix bAt
    have hne : v.data.toList ≠ [] := fun e => by rw [e] at hl; simp at hl; omega
    have hdl : v.data.toList = v.data.toList.dropLast ++ [v.data.toList.getLast hne] := (List.dropLast_concat_getLast hne).symm
    have hga : v.get! (v.size - 1) = v.data.toList.getLast hne := by
      have h0 : v.size - 1 < v.data.size := by show _ < v.size; omega
      simp only [ByteArray.get!]
      rw [getElem!_pos v.data (v.size - 1) h0, List.getLast_eq_getElem, ← Array.getElem_toList]
      congr 1
    rw [hga, Bool.eq_iff_iff, List.isSuffixOf_iff_suffix, beq_iff_eq]
    generalize v.data.toList.getLast hne = a at *
    constructor
    · rintro ⟨t, ht⟩
      rw [hdl] at ht
      have := (List.append_inj' ht rfl).2
      simp only [List.cons.injEq, and_true] at this
      rw [← this]; rfl
    · intro e
      have : a = 32 := by apply UInt8.toNat_inj.1; have : (32 : UInt8).toNat = 32 := rfl; omega
      exact ⟨v.data.toList.dropLast, by rw [hdl, this]; simp⟩
end Go.Proofs.YtehdgndbloaljaaDoor

/- The document's Right. -/
namespace Go.Proofs.YtehdgndbloaljaaDoor
open Go.RowKit Go.Shelf
set_option maxRecDepth 100000
set_option linter.unusedVariables false
set_option linter.unusedSimpArgs false

set_option maxRecDepth 100000 in
set_option maxHeartbeats 16000000 in
theorem rright14_any (st : ByteArray) (hs : List Hr) (sv sb : Value) (zb : List Int) (w : World) (hI : RdM w.heap.size w sv hs) (hB : Rd w.heap.size w sb zb) (hz : szM st hs zb.length ≤ 9000000000000000000) (hzs : st.size ≤ 140737488355328 ∧ ∀ h ∈ hs, h.1.size ≤ 140737488355328 ∧ h.2.size ≤ 140737488355328) :
    Calls Tryd.prog 22 #[.agg #[.string st, sv, sb]] w fun e w' => e = .returned (.bool (rgB st hs zb.length)) ∧ Later w w' := by
  obtain ⟨ah, ch, rfl, hl1, hm1⟩ := hI.slice
  obtain ⟨ab, cb, rfl, hl2, hm2⟩ := hB.slice
  have HR : Hid (rgB st hs zb.length = (allB lnC st && (!(st.size == 0) && ((decide (hs.length ≤ 64) && (hs.all (okh zb.length) && decide (hs.countP (fun h => swV h.1 clN) = 1))) && decide (szM st hs zb.length ≤ 4096))))) := rfl
  generalize rgB st hs zb.length = r at *
  have l0 : Later w (w.alloc (.cells #[.string st, .slice ah hs.length ch, .slice ab zb.length cb] 31)) := later_allocR _ _
  have C0 := hide (heap_alloc_new w (.cells #[.string st, .slice ah hs.length ch, .slice ab zb.length cb] 31))
  have hzz : hsz hs ≤ 9000000000000000000 := by unfold szM at hz; omega
  have HSZ := hide (fun W (l : Later w W) => rsize_any st hs _ _ zb W (hI.later l) (hB.later l) hz)
  generalize szM st hs zb.length = sz at *
  go_enter Tryd.func22, Tryd.ntmps22
  go_upto_region 1 with fail
  generalize w.alloc _ = w0 at *
  have HI := hide (hI.later l0)
  generalize w.heap.size = gm at *
  have k0 := block_cell C0.out
  by_cases hs0 : st.size = 0
  · have HE : Hid (r = false) := by show _ = _; rw [HR.out, hs0]; simp
    obtain rfl := str_empty st hs0
    go_wp2_with fail
    go_ret
    exact ⟨by rw [HE.out]; rfl, l0⟩
  have hne := str_ne hs0
  have HR2 : Hid (r = (allB lnC st && ((decide (hs.length ≤ 64) && (hs.all (okh zb.length) && decide (hs.countP (fun h => swV h.1 clN) = 1))) && decide (sz ≤ 4096)))) := by show _ = _; rw [HR.out, show (st.size == 0) = false from by simpa using hs0]; rfl
  clear HR hs0
  go_wp2_with fail
  refine (rplain_any st w0 (by omega)).mono ?_
  generalize allB lnC st = b1 at *
  rintro e w1 ⟨rfl, hw⟩
  rw [hw]
  clear hw w1
  cases b1 with
  | false =>
    go_wp2_with fail
    go_ret
    exact ⟨by rw [HR2.out]; rfl, l0⟩
  | true =>
    by_cases h64 : hs.length ≤ 64
    case neg =>
      have h1 : (64 : Int) < (hs.length : Int) := by omega
      have HE : Hid (r = false) := by show _ = _; rw [HR2.out]; simp [h64]
      go_wp2_with fail
      go_ret
      exact ⟨by rw [HE.out]; rfl, l0⟩
    have h1 : ¬ (64 : Int) < (hs.length : Int) := by omega
    go_wp2_with fail
    refine (HSZ.out w0 l0).mono ?_
    rintro e w2 ⟨⟨rr, rfl, hrr⟩, l2⟩
    clear k0
    by_cases hb : sz ≤ 4096
    case neg =>
      have h2 : 4096 < rr := by rw [decide_eq_true (by omega : 4096 < sz)] at hrr; exact of_decide_eq_true hrr
      have HE : Hid (r = false) := by show _ = _; rw [HR2.out]; simp [hb]
      clear hrr
      go_wp2_with fail
      go_ret
      exact ⟨by rw [HE.out]; rfl, Later.trans l0 l2⟩
    have h2 : ¬ 4096 < rr := by rw [decide_eq_false (by omega : ¬ 4096 < sz)] at hrr; exact of_decide_eq_false hrr
    have HR3 : Hid (r = (hs.all (okh zb.length) && decide (hs.countP (fun h => swV h.1 clN) = 1))) := by show _ = _; rw [HR2.out]; simp [h64, hb]
    have C2 := hide (later_keep l2 C0.out)
    have L2 : Later w w2 := Later.trans l0 l2
    have HI2 := hide (HI.out.later l2)
    clear HR2 hrr C0 HSZ
    go_upto_region 5 with fail
    clear h1 h2
    go_loopw [3, 4, 5, 6] (fun nv iv pv vv wr => ∃ k : Nat, k ≤ hs.length ∧ iv = .int .i64 (k : Int) ∧ nv = .int .i64 (((hs.take k).countP (fun h => swV h.1 clN) : Nat) : Int) ∧ Later w2 wr ∧ Hid ((hs.take k).all (okh zb.length) = true)) (fun _ iv _ _ _ => hs.length - (intOf iv).toNat)
    case atStart => exact ⟨0, by omega, rfl, rfl, Later.refl _, hide rfl⟩
    case round =>
      obtain ⟨k, hk, rfl, rfl, lr, hal⟩ := hrel
      have k1 := block_cell (later_keep lr C2.out)
      by_cases hlt : k < hs.length
      · have hlt' : (k : Int) < (hs.length : Int) := by omega
        obtain ⟨b, off, cp, e, _, _, hbn, hcs⟩ := (HI2.out.below lr).cells (by omega)
        cases e
        have d0 := hcs k hlt 0 (by omega)
        have d1 := hcs k hlt 1 (by omega)
        have hsn : hs.take (k + 1) = hs.take k ++ [hs[k]] := by rw [← List.take_append_getElem hlt]
        have hmem := List.getElem_mem hlt
        have hzm := hzs.2 _ hmem
        have HNO : Hid (okh zb.length hs[k] = false → r = false) := fun h => by
          rw [HR3.out]
          have : hs.all (okh zb.length) = false := by rw [List.all_eq_false]; exact ⟨hs[k], hmem, by simp [h]⟩
          rw [this]; rfl
        have HYE : Hid (okh zb.length hs[k] = true → (hs.take (k + 1)).all (okh zb.length) = true) := fun h => by rw [hsn, List.all_append, hal.out]; simp [h]
        have HCT : Hid ((hs.take (k + 1)).countP (fun h => swV h.1 clN) = (hs.take k).countP (fun h => swV h.1 clN) + (if swV hs[k].1 clN = true then 1 else 0)) := by show _ = _; rw [hsn, List.countP_append]; simp [List.countP_cons]
        have hcl : (hs.take k).countP (fun h => swV h.1 clN) ≤ k := by
          have := List.countP_le_length (p := fun h : Hr => swV h.1 clN) (l := hs.take k)
          rw [List.length_take] at this
          omega
        clear hcs hsn hmem
        generalize hs[k] = rr at *
        obtain ⟨x, y⟩ := rr
        simp only [hrc, List.getElem?_cons_zero, List.getElem?_cons_succ, Nat.add_zero] at d0 d1 hzm HCT
        have HOK : Hid (okh zb.length (x, y) = (allN nmC x && ((allB lnC y && (!Lib.hasPrefix y.data.toList [32] && !Lib.hasSuffix y.data.toList [32])) && (!swV x clN || eqS y (decB zb.length))))) := rfl
        rw [HOK.out] at HNO HYE
        clear HOK
        generalize (hs.take k).countP (fun h => swV h.1 clN) = c at *
        have la := later_allocR wr (.cells #[.string x, .string y] 64)
        have B1 := hide (heap_alloc_new wr (.cells #[.string x, .string y] 64))
        go_upto_region 8 with fail
        clear d0 d1 k1
        generalize wr.alloc _ = wq at *
        generalize wr.heap.size = gh at *
        have lq := lr.trans la
        have k1 := block_cell B1.out
        go_wp2_with fail
        refine (rname_any x wq (by omega)).mono ?_
        generalize allN nmC x = b1 at *
        rintro e w1 ⟨rfl, hw⟩
        rw [hw]
        clear hw w1
        cases b1 with
        | false =>
          have HVV := hide (HNO.out rfl)
          clear HNO HYE
          go_wp2_with fail
          go_ret
          exact ⟨by rw [HVV.out]; rfl, L2.trans lq⟩
        | true =>
          go_wp2_with fail
          refine (rplain_any y wq (by omega)).mono ?_
          generalize allB lnC y = b2 at *
          rintro e w1 ⟨rfl, hw⟩
          rw [hw]
          clear hw w1
          cases b2 with
          | false =>
            have HVV := hide (HNO.out rfl)
            clear HNO HYE
            go_wp2_with fail
            go_ret
            exact ⟨by rw [HVV.out]; rfl, L2.trans lq⟩
          | true =>
            by_cases hy0 : y.size = 0
            · have e1 : Lib.hasPrefix y.data.toList [32] = false := by rw [str_empty y hy0]; rfl
              have e2 : Lib.hasSuffix y.data.toList [32] = false := by rw [str_empty y hy0]; rfl
              rw [e1, e2] at HNO HYE
              clear e1 e2
              have hye : y.toList.isEmpty = true := by rw [str_empty y hy0, ByteArray.toList_eq]; rfl
              clear hy0
              go_upto_region 13 with fail
              clear k1
              have k1 := block_cell B1.out
              have HLC := hide (low_cl x)
              have HLW := hide (rlower_any x wq (by omega))
              generalize strOfNums (lowZ x) = lx at *
              generalize swV x clN = b3 at *
              have hlc : (lx.toList == [99, 111, 110, 116, 101, 110, 116, 45, 108, 101, 110, 103, 116, 104]) = b3 := by rw [← HLC.out, ByteArray.toList_eq ⟨#[99, 111, 110, 116, 101, 110, 116, 45, 108, 101, 110, 103, 116, 104]⟩]
              go_wp2_with fail
              refine HLW.out.mono ?_
              rintro e w3 ⟨rfl, l3⟩
              clear k1
              cases b3 with
              | false =>
                have HYY := hide (HYE.out rfl)
                clear HNO HYE
                go_wp2_with fail
                go_roundw
                case rel => exact ⟨k + 1, by omega, by go_num, by rw [HCT.out]; rfl, lq.trans l3, HYY⟩
                case measure => simp [intOf]; omega
              | true =>
                have hc1 : (c : Int) ≤ 64 := by omega
                go_upto_region 15 with fail
                clear hlc
                have B3 := hide (later_keep l3 B1.out)
                have C3 := hide (later_keep (lq.trans l3) C2.out)
                refine anyR_begin (R := Later) Later.pre Later.drew 7 rfl (by kernel_rfl) (fun V0 hV0 => ?_)
                have qH : ∀ v, Later V0 v → ∀ j, v.cell? ⟨gh, j, none⟩ = #[Value.string x, .string y][j]? := fun v hv => block_cell (later_keep (hV0.trans hv) B3.out)
                have qM : ∀ v, Later V0 v → ∀ j, v.cell? ⟨gm, j, none⟩ = #[Value.string st, .slice (some ⟨b, off, none⟩) hs.length ch, .slice ab zb.length cb][j]? := fun v hv => block_cell (later_keep (hV0.trans hv) C3.out)
                refine anyR_val Later.pre 0 rfl (by kernel_rfl) (by kernel_rfl) (by kernel_rfl) (fun _ _ _ _ h => h) rfl ?_; apply Exists.intro; refine ⟨fun v1 hv1 => ?_, ?_⟩; (· (go_simp; rfl)); simp only [Act.put, List.setIfInBounds_toArray, List.set_cons_zero, List.set_cons_succ]
                refine anyR_val Later.pre 1 rfl (by kernel_rfl) (by kernel_rfl) (by kernel_rfl) (fun _ _ _ _ h => h) rfl ?_; apply Exists.intro; refine ⟨fun v1 hv1 => ?_, ?_⟩; (· (go_simp; rfl)); simp only [Act.put, List.setIfInBounds_toArray, List.set_cons_zero, List.set_cons_succ]
                refine anyR_val Later.pre 2 rfl (by kernel_rfl) (by kernel_rfl) (by kernel_rfl) (fun _ _ _ _ h => h) rfl ?_; apply Exists.intro; refine ⟨fun v1 hv1 => ?_, ?_⟩; (· (go_simp; rfl)); simp only [Act.put, List.setIfInBounds_toArray, List.set_cons_zero, List.set_cons_succ]
                refine anyR_val Later.pre 3 rfl (by kernel_rfl) (by kernel_rfl) (by kernel_rfl) (fun _ _ _ _ h => h) rfl ?_; apply Exists.intro; refine ⟨fun v1 hv1 => ?_, ?_⟩; (· (go_simp; rfl)); simp only [Act.put, List.setIfInBounds_toArray, List.set_cons_zero, List.set_cons_succ]
                refine anyR_val Later.pre 4 rfl (by kernel_rfl) (by kernel_rfl) (by kernel_rfl) (fun _ _ _ _ h => h) rfl ?_; apply Exists.intro; refine ⟨fun v1 hv1 => ?_, ?_⟩; (· (go_simp; rfl)); simp only [Act.put, List.setIfInBounds_toArray, List.set_cons_zero, List.set_cons_succ]
                refine anyR_take Later.pre 5 (.string (decB zb.length)) rfl (by kernel_rfl) (by kernel_rfl) (by kernel_rfl) (fun _ _ _ h => h) rfl (fun v1 hv1 => goes_call 44 #[.int .i64 (zb.length : Int)] (by go_simp) (rdigits_any zb.length (by omega) v1)) ?_
                simp only [Act.put, List.setIfInBounds_toArray, List.set_cons_zero, List.set_cons_succ]
                refine anyR_val Later.pre 6 rfl (by kernel_rfl) (by kernel_rfl) (by kernel_rfl) (fun _ _ _ _ h => h) rfl ?_; apply Exists.intro; refine ⟨fun v1 hv1 => ?_, ?_⟩; (· (go_simp; rfl)); simp only [Act.put, List.setIfInBounds_toArray, List.set_cons_zero, List.set_cons_succ]
                clear qH qM
                refine anyR_done (by kernel_rfl) (fun V9 hV9 => ?_)
                have L9 := lq.trans (l3.trans (hV0.trans hV9))
                rw [str_beq y (decB zb.length)]
                generalize eqS y (decB zb.length) = b4 at *
                cases b4 with
                | false =>
                  have HVV := hide (HNO.out rfl)
                  clear HNO HYE
                  go_wp2_with fail
                  go_ret
                  exact ⟨by rw [HVV.out]; rfl, L2.trans L9⟩
                | true =>
                  have HYY := hide (HYE.out rfl)
                  clear HNO HYE
                  go_wp2_with fail
                  go_roundw
                  case rel => exact ⟨k + 1, by omega, by go_num, by rw [HCT.out]; go_num, L9, HYY⟩
                  case measure => simp [intOf]; omega
            · have hyn := str_ne hy0
              obtain ⟨e1, e2⟩ := vl_blank y hy0
              rw [e1, e2] at HNO HYE
              clear e1 e2
              have hp0 : 0 < y.size := by omega
              have hp0' : (0 : Int) < (y.size : Int) := by omega
              have hq0 : y.size - 1 < y.size := by omega
              have g1 := bAt_get y 0 hp0
              have g2 := bAt_get y (y.size - 1) hq0
              rw [← g1, ← g2] at HNO HYE
              clear g1 g2 hy0
              have hys : (y.size : Int) - 1 = ((y.size - 1 : Nat) : Int) := by omega
              have hys2 : ((y.size - 1 : Nat) : Int) < (y.size : Int) := by omega
              have hyb : (y.size : Int) ≤ 140737488355328 := by omega
              cases hb1 : (((y[0]'hp0).toNat : Nat) : Int) == 32 with
              | true =>
                rw [hb1] at HNO HYE
                have HVV := hide (HNO.out rfl)
                clear HNO HYE
                go_wp2_with fail
                go_ret
                exact ⟨by rw [HVV.out]; rfl, L2.trans lq⟩
              | false =>
                rw [hb1] at HNO HYE
                cases hb2 : (((y[y.size - 1]'hq0).toNat : Nat) : Int) == 32 with
                | true =>
                  rw [hb2] at HNO HYE
                  have HVV := hide (HNO.out rfl)
                  clear HNO HYE
                  go_wp2_with fail
                  go_ret
                  exact ⟨by rw [HVV.out]; rfl, L2.trans lq⟩
                | false =>
                  rw [hb2] at HNO HYE
                  go_upto_region 13 with fail
                  clear k1
                  have k1 := block_cell B1.out
                  have HLC := hide (low_cl x)
                  have HLW := hide (rlower_any x wq (by omega))
                  generalize strOfNums (lowZ x) = lx at *
                  generalize swV x clN = b3 at *
                  have hlc : (lx.toList == [99, 111, 110, 116, 101, 110, 116, 45, 108, 101, 110, 103, 116, 104]) = b3 := by rw [← HLC.out, ByteArray.toList_eq ⟨#[99, 111, 110, 116, 101, 110, 116, 45, 108, 101, 110, 103, 116, 104]⟩]
                  go_wp2_with fail
                  refine HLW.out.mono ?_
                  rintro e w3 ⟨rfl, l3⟩
                  clear k1
                  cases b3 with
                  | false =>
                    have HYY := hide (HYE.out rfl)
                    clear HNO HYE
                    go_wp2_with fail
                    go_roundw
                    case rel => exact ⟨k + 1, by omega, by go_num, by rw [HCT.out]; rfl, lq.trans l3, HYY⟩
                    case measure => simp [intOf]; omega
                  | true =>
                    have hc1 : (c : Int) ≤ 64 := by omega
                    go_upto_region 15 with fail
                    clear hlc
                    have B3 := hide (later_keep l3 B1.out)
                    have C3 := hide (later_keep (lq.trans l3) C2.out)
                    refine anyR_begin (R := Later) Later.pre Later.drew 7 rfl (by kernel_rfl) (fun V0 hV0 => ?_)
                    have qH : ∀ v, Later V0 v → ∀ j, v.cell? ⟨gh, j, none⟩ = #[Value.string x, .string y][j]? := fun v hv => block_cell (later_keep (hV0.trans hv) B3.out)
                    have qM : ∀ v, Later V0 v → ∀ j, v.cell? ⟨gm, j, none⟩ = #[Value.string st, .slice (some ⟨b, off, none⟩) hs.length ch, .slice ab zb.length cb][j]? := fun v hv => block_cell (later_keep (hV0.trans hv) C3.out)
                    refine anyR_val Later.pre 0 rfl (by kernel_rfl) (by kernel_rfl) (by kernel_rfl) (fun _ _ _ _ h => h) rfl ?_; apply Exists.intro; refine ⟨fun v1 hv1 => ?_, ?_⟩; (· (go_simp; rfl)); simp only [Act.put, List.setIfInBounds_toArray, List.set_cons_zero, List.set_cons_succ]
                    refine anyR_val Later.pre 1 rfl (by kernel_rfl) (by kernel_rfl) (by kernel_rfl) (fun _ _ _ _ h => h) rfl ?_; apply Exists.intro; refine ⟨fun v1 hv1 => ?_, ?_⟩; (· (go_simp; rfl)); simp only [Act.put, List.setIfInBounds_toArray, List.set_cons_zero, List.set_cons_succ]
                    refine anyR_val Later.pre 2 rfl (by kernel_rfl) (by kernel_rfl) (by kernel_rfl) (fun _ _ _ _ h => h) rfl ?_; apply Exists.intro; refine ⟨fun v1 hv1 => ?_, ?_⟩; (· (go_simp; rfl)); simp only [Act.put, List.setIfInBounds_toArray, List.set_cons_zero, List.set_cons_succ]
                    refine anyR_val Later.pre 3 rfl (by kernel_rfl) (by kernel_rfl) (by kernel_rfl) (fun _ _ _ _ h => h) rfl ?_; apply Exists.intro; refine ⟨fun v1 hv1 => ?_, ?_⟩; (· (go_simp; rfl)); simp only [Act.put, List.setIfInBounds_toArray, List.set_cons_zero, List.set_cons_succ]
                    refine anyR_val Later.pre 4 rfl (by kernel_rfl) (by kernel_rfl) (by kernel_rfl) (fun _ _ _ _ h => h) rfl ?_; apply Exists.intro; refine ⟨fun v1 hv1 => ?_, ?_⟩; (· (go_simp; rfl)); simp only [Act.put, List.setIfInBounds_toArray, List.set_cons_zero, List.set_cons_succ]
                    refine anyR_take Later.pre 5 (.string (decB zb.length)) rfl (by kernel_rfl) (by kernel_rfl) (by kernel_rfl) (fun _ _ _ h => h) rfl (fun v1 hv1 => goes_call 44 #[.int .i64 (zb.length : Int)] (by go_simp) (rdigits_any zb.length (by omega) v1)) ?_
                    simp only [Act.put, List.setIfInBounds_toArray, List.set_cons_zero, List.set_cons_succ]
                    refine anyR_val Later.pre 6 rfl (by kernel_rfl) (by kernel_rfl) (by kernel_rfl) (fun _ _ _ _ h => h) rfl ?_; apply Exists.intro; refine ⟨fun v1 hv1 => ?_, ?_⟩; (· (go_simp; rfl)); simp only [Act.put, List.setIfInBounds_toArray, List.set_cons_zero, List.set_cons_succ]
                    clear qH qM
                    refine anyR_done (by kernel_rfl) (fun V9 hV9 => ?_)
                    have L9 := lq.trans (l3.trans (hV0.trans hV9))
                    rw [str_beq y (decB zb.length)]
                    generalize eqS y (decB zb.length) = b4 at *
                    cases b4 with
                    | false =>
                      have HVV := hide (HNO.out rfl)
                      clear HNO HYE
                      go_wp2_with fail
                      go_ret
                      exact ⟨by rw [HVV.out]; rfl, L2.trans L9⟩
                    | true =>
                      have HYY := hide (HYE.out rfl)
                      clear HNO HYE
                      go_wp2_with fail
                      go_roundw
                      case rel => exact ⟨k + 1, by omega, by go_num, by rw [HCT.out]; go_num, L9, HYY⟩
                      case measure => simp [intOf]; omega
      · obtain rfl : k = hs.length := by omega
        have hnl : ¬ ((hs.length : Nat) : Int) < (hs.length : Int) := by omega
        rw [List.take_length] at hal ⊢
        generalize hs.countP (fun h => swV h.1 clN) = c at *
        have hq : ((c : Int) == 1) = decide (c = 1) := by by_cases h : c = 1 <;> simp [h]; omega
        have HVV : Hid (r = ((c : Int) == 1)) := by show _ = _; rw [HR3.out, hal.out, hq]; rfl
        clear hq HR3
        go_wp2_with fail
        go_ret
        exact ⟨by rw [HVV.out]; rfl, L2.trans lr⟩
end Go.Proofs.YtehdgndbloaljaaDoor

/- The law's ref: a message as the document's. -/
namespace Go.Proofs.YtehdgndbloaljaaDoor
open Go.RowKit Go.Shelf
set_option maxRecDepth 100000
set_option linter.unusedVariables false
set_option linter.unusedSimpArgs false

theorem info_hdrR : (Tryd.prog.info? 64).map (fun i => (i.zero, i.size, i.bytes)) = some (some (.agg #[.string ⟨#[]⟩, .string ⟨#[]⟩]), 2, 32) := by kernel_rfl
theorem ownR_rd {base : Nat} {W : World} {v : Value} {l : List Hr} {T : TypeId} (h : W.ownsRow base T 2 v l.length (hrs l)) : RdM W.heap.size W v l := by
  obtain ⟨h1, ⟨rfl, h0⟩ | ⟨g, cap, cur, rfl, hg, hh, hl, hm, hs, hc⟩⟩ := h
  · have : l = [] := List.eq_nil_of_length_eq_zero h0
    subst this
    exact .inl ⟨none, 0, rfl, rfl, by omega, fun _ => rfl⟩
  · by_cases hn : l = []
    · subst hn
      exact .inl ⟨_, cap, rfl, rfl, by simpa [maxLen] using hm, fun h => by cases h⟩
    · refine .inr ⟨g, 0, cap, rfl, hn, hl, by simpa [maxLen] using hm, (Array.getElem?_eq_some_iff.1 hh).1, fun j hj i hi => ?_⟩
      rw [Nat.zero_add, block_cell hh, ← hrs_at l j i hj hi, ← hc, List.getElem?_take_of_lt (by omega)]
      simp

set_option maxRecDepth 100000 in
set_option maxHeartbeats 8000000 in
theorem ref_any (st : ByteArray) (sv sb : Value) (hs : List Hr) (zb : List Int) (w : World) (hH : RdM w.heap.size w sv hs) (hB : Rd w.heap.size w sb zb) (hhl : hs.length ≤ 100) :
    Calls Tryd.prog 16 #[.agg #[.string st, sv, sb]] w fun e w' => Later w w' ∧ ∃ vh, e = .returned (.agg #[.string st, vh, sb]) ∧ w'.ownsRow w.heap.size 64 2 vh hs.length (hrs hs) := by
  obtain ⟨sa, scp, rfl, hsc1, hsc2⟩ := hH.slice
  obtain ⟨ba, bcp, rfl, hbc1, hbc2⟩ := hB.slice
  have hb4 : Later w (((w.alloc (.cells #[.string st, .slice sa hs.length scp, .slice ba zb.length bcp] 25)).alloc (.cells #[.string ⟨#[]⟩, .slice none 0 0, .slice none 0 0] 31)).alloc (.cells #[.string st, .slice none 0 0, .slice ba zb.length bcp] 31)) := (((Below.refl _ _).alloc (Nat.le_refl _) _).alloc (by simp) _).alloc (by simp <;> omega) _
  have c0 : ((w.alloc (.cells #[.string st, .slice sa hs.length scp, .slice ba zb.length bcp] 25)).alloc (.cells #[.string ⟨#[]⟩, .slice none 0 0, .slice none 0 0] 31)).heap[w.heap.size]? = some (.cells #[.string st, .slice sa hs.length scp, .slice ba zb.length bcp] 25 (0, 0)) := (Below.heap_alloc _ _ _ (by simp)).trans (heap_alloc_new w _)
  have c1 : ((w.alloc (.cells #[.string st, .slice sa hs.length scp, .slice ba zb.length bcp] 25)).alloc (.cells #[.string ⟨#[]⟩, .slice none 0 0, .slice none 0 0] 31)).heap[w.heap.size + 1]? = some (.cells #[.string ⟨#[]⟩, .slice none 0 0, .slice none 0 0] 31 (0, 0)) := by
    have := heap_alloc_new (w.alloc (.cells #[.string st, .slice sa hs.length scp, .slice ba zb.length bcp] 25)) (.cells #[.string ⟨#[]⟩, .slice none 0 0, .slice none 0 0] 31)
    rw [World.size_alloc] at this
    exact this
  have hs4 : ((w.alloc (.cells #[.string st, .slice sa hs.length scp, .slice ba zb.length bcp] 25)).alloc (.cells #[.string ⟨#[]⟩, .slice none 0 0, .slice none 0 0] 31)).heap.size = w.heap.size + 1 + 1 := by simp
  have hb3 : Later w ((w.alloc (.cells #[.string st, .slice sa hs.length scp, .slice ba zb.length bcp] 25)).alloc (.cells #[.string ⟨#[]⟩, .slice none 0 0, .slice none 0 0] 31)) := ((Below.refl _ _).alloc (Nat.le_refl _) _).alloc (by simp) _
  have C0 := hide c0
  have C1 := hide c1
  have HS4 := hide hs4
  clear c0 c1 hs4 hb4
  go_enter Tryd.func16, Tryd.ntmps16
  go_upto_region 1 with fail
  generalize (w.alloc (.cells #[.string st, .slice sa hs.length scp, .slice ba zb.length bcp] 25)).alloc (.cells #[.string ⟨#[]⟩, .slice none 0 0, .slice none 0 0] 31) = w4 at *
  generalize hgc : w.heap.size = gc at C0 C1 HS4 ⊢
  have k0 := block_cell C0.out
  have la := later_allocR w4 (.cells #[.string st, .slice none 0 0, .slice ba zb.length bcp] 31)
  have C2 := hide (heap_alloc_new w4 (.cells #[.string st, .slice none 0 0, .slice ba zb.length bcp] 31))
  go_upto_region 2 with fail
  clear k0
  have D0 := hide (later_keep la C0.out)
  have D1 := hide (later_keep la C1.out)
  have LW : Later w (w4.alloc (.cells #[.string st, .slice none 0 0, .slice ba zb.length bcp] 31)) := Later.trans hb3 la
  have hs5 : w4.heap.size = gc + 1 + 1 := HS4.out
  rw [hs5] at C2 ⊢
  change Code.wp _ _ _ _ (w4.alloc (.cells #[.string st, .slice none 0 0, .slice ba zb.length bcp] 31))
  generalize w4.alloc (.cells #[.string st, .slice none 0 0, .slice ba zb.length bcp] 31) = W at *
  have LWg : Below gc w W := hgc ▸ LW
  go_upto_region 3 with fail
  have HH := hide (hH.below (hgc ▸ LWg : Below w.heap.size w W))
  rw [hgc] at HH
  have hgcW : gc + 3 ≤ W.heap.size := by have := (Array.getElem?_eq_some_iff.1 C2.out).1; omega
  go_loopw [4] (fun iv wr => ∃ (k : Nat) (vh : Value), k ≤ hs.length ∧ iv = .int .i64 (k : Int) ∧ Below gc W wr ∧ Hid (wr.heap[gc]? = some (.cells #[.string st, .slice sa hs.length scp, .slice ba zb.length bcp] 25 (0, 0))) ∧ Hid (wr.heap[gc + 1]? = some (.cells #[.string ⟨#[]⟩, .slice none 0 0, .slice none 0 0] 31 (0, 0))) ∧ Hid (wr.heap[gc + 1 + 1]? = some (.cells #[.string st, vh, .slice ba zb.length bcp] 31 (0, 0))) ∧ Hid (wr.ownsRow gc 64 2 vh k (hrs (hs.take k)))) (fun iv _ => hs.length - (intOf iv).toNat)
  case atStart => exact ⟨0, .slice none 0 0, by omega, rfl, Below.refl _ _, D0, D1, C2, rfl, .inl ⟨rfl, rfl⟩⟩
  case round =>
    obtain ⟨k, vh, hk, rfl, hbr, E0, E1, EN, EH⟩ := hrel
    have hbs := hbr.size
    have k0 := block_cell E0.out
    obtain ⟨ha, hcp, rfl⟩ := owns_form EH.out
    by_cases hlt : k < hs.length
    · have hlt' : (k : Int) < (hs.length : Int) := by omega
      have hlt2 : (k : Int) < 200 := by omega
      obtain ⟨b, off, cp, e, _, _, hbn, hcs⟩ := ((HH.out).below hbr).cells (by omega)
      cases e
      have d0 := hcs k hlt 0 (by omega)
      have d1 := hcs k hlt 1 (by omega)
      have HTK : Hid (hs.take (k + 1) = hs.take k ++ [hs[k]]) := by show _ = _; rw [← List.take_append_getElem hlt]
      clear hcs
      generalize hs[k] = hr at *
      obtain ⟨n1, n2⟩ := hr
      simp only [hrc, List.getElem?_cons_zero, List.getElem?_cons_succ, Nat.add_zero] at d0 d1
      go_upto_region 5 with fail
      clear k0
      refine wp_calmS ?_
      refine anyU_begin (R1 := Later) (R2 := fun _ _ => True) (D := [16, 18]) 19 rfl (by kernel_rfl) ?_
      have ld : Later wr wr.drew := Later.drew wr
      generalize wr.drew = Wd at *
      have qM : ∀ v1, Later Wd v1 → ∀ j, v1.cell? ⟨gc, j, none⟩ = #[.string st, .slice (some ⟨b, off, none⟩) hs.length scp, .slice ba zb.length bcp][j]? := fun v1 hv => block_cell (later_keep (ld.trans hv) E0.out)
      have qN : ∀ v1, Later Wd v1 → ∀ j, v1.cell? ⟨gc + 1 + 1, j, none⟩ = #[.string st, .slice ha k hcp, .slice ba zb.length bcp][j]? := fun v1 hv => block_cell (later_keep (ld.trans hv) EN.out)
      have q0 : ∀ v, Later Wd v → v.cell? ⟨b, off + k * 2, none⟩ = some (.string n1) := fun v hv => (ld.trans hv).cell d0
      have q1 : ∀ v, Later Wd v → v.cell? ⟨b, off + k * 2 + 1, none⟩ = some (.string n2) := fun v hv => (ld.trans hv).cell d1
      clear d0 d1
      refine anyU_val Later.pre 0 [1, 16, 18] rfl (by rfl) (by rfl) (by kernel_rfl) (by kernel_rfl) (by kernel_rfl) (by kernel_rfl) (by kernel_rfl) (fun _ _ _ _ h => by cases h.1) (by rfl) ?_; apply Exists.intro; refine ⟨fun v1 hv1 => ?_, ?_⟩; (· (go_simp; rfl)); simp only [Act.put, List.setIfInBounds_toArray, List.set_cons_zero, List.set_cons_succ]
      refine anyU_val Later.pre 1 [16, 18] rfl (by rfl) (by rfl) (by kernel_rfl) (by kernel_rfl) (by kernel_rfl) (by kernel_rfl) (by kernel_rfl) (fun _ _ _ _ h => by cases h.1) (by rfl) ?_; apply Exists.intro; refine ⟨fun v1 hv1 => ?_, ?_⟩; (· (go_simp; rfl)); simp only [Act.put, List.setIfInBounds_toArray, List.set_cons_zero, List.set_cons_succ]
      refine anyU_val Later.pre 2 [3, 5, 6, 7, 14, 15, 16, 18] rfl (by rfl) (by rfl) (by kernel_rfl) (by kernel_rfl) (by kernel_rfl) (by kernel_rfl) (by kernel_rfl) (fun _ _ _ _ h => by cases h.1) (by rfl) ?_; apply Exists.intro; refine ⟨fun v1 hv1 => ?_, ?_⟩; (· (go_simp; rfl)); simp only [Act.put, List.setIfInBounds_toArray, List.set_cons_zero, List.set_cons_succ]
      refine anyU_val Later.pre 3 [5, 6, 7, 14, 15, 16, 18] rfl (by rfl) (by rfl) (by kernel_rfl) (by kernel_rfl) (by kernel_rfl) (by kernel_rfl) (by kernel_rfl) (fun _ _ _ _ h => by cases h.1) (by rfl) ?_; apply Exists.intro; refine ⟨fun v1 hv1 => ?_, ?_⟩; (· (go_simp; rfl)); simp only [Act.put, List.setIfInBounds_toArray, List.set_cons_zero, List.set_cons_succ]
      refine anyU_val Later.pre 4 [5, 6, 7, 14, 15, 16, 18] rfl (by rfl) (by rfl) (by kernel_rfl) (by kernel_rfl) (by kernel_rfl) (by kernel_rfl) (by kernel_rfl) (fun _ _ _ _ h => by cases h.1) (by rfl) ?_; apply Exists.intro; refine ⟨fun v1 hv1 => ?_, ?_⟩; (· (go_simp; rfl)); simp only [Act.put, List.setIfInBounds_toArray, List.set_cons_zero, List.set_cons_succ]
      refine anyU_val Later.pre 5 [6, 7, 14, 15, 16, 18] rfl (by rfl) (by rfl) (by kernel_rfl) (by kernel_rfl) (by kernel_rfl) (by kernel_rfl) (by kernel_rfl) (fun _ _ _ _ h => by cases h.1) (by rfl) ?_; apply Exists.intro; refine ⟨fun v1 hv1 => ?_, ?_⟩; (· (go_simp; rfl)); simp only [Act.put, List.setIfInBounds_toArray, List.set_cons_zero, List.set_cons_succ]
      refine anyU_val Later.pre 6 [7, 14, 15, 16, 18] rfl (by rfl) (by rfl) (by kernel_rfl) (by kernel_rfl) (by kernel_rfl) (by kernel_rfl) (by kernel_rfl) (fun _ _ _ _ h => by cases h.1) (by rfl) ?_; apply Exists.intro; refine ⟨fun v1 hv1 => ?_, ?_⟩; (· (go_simp; rfl)); simp only [Act.put, List.setIfInBounds_toArray, List.set_cons_zero, List.set_cons_succ]
      refine anyU_val Later.pre 7 [14, 15, 16, 18] rfl (by rfl) (by rfl) (by kernel_rfl) (by kernel_rfl) (by kernel_rfl) (by kernel_rfl) (by kernel_rfl) (fun _ _ _ _ h => by cases h.1) (by rfl) ?_; apply Exists.intro; refine ⟨fun v1 hv1 => ?_, ?_⟩; (· (go_simp; rfl)); simp only [Act.put, List.setIfInBounds_toArray, List.set_cons_zero, List.set_cons_succ]
      refine anyU_val Later.pre 8 [9, 11, 12, 13, 14, 15, 16, 18] rfl (by rfl) (by rfl) (by kernel_rfl) (by kernel_rfl) (by kernel_rfl) (by kernel_rfl) (by kernel_rfl) (fun _ _ _ _ h => by cases h.1) (by rfl) ?_; apply Exists.intro; refine ⟨fun v1 hv1 => ?_, ?_⟩; (· (go_simp; rfl)); simp only [Act.put, List.setIfInBounds_toArray, List.set_cons_zero, List.set_cons_succ]
      refine anyU_val Later.pre 9 [11, 12, 13, 14, 15, 16, 18] rfl (by rfl) (by rfl) (by kernel_rfl) (by kernel_rfl) (by kernel_rfl) (by kernel_rfl) (by kernel_rfl) (fun _ _ _ _ h => by cases h.1) (by rfl) ?_; apply Exists.intro; refine ⟨fun v1 hv1 => ?_, ?_⟩; (· (go_simp; rfl)); simp only [Act.put, List.setIfInBounds_toArray, List.set_cons_zero, List.set_cons_succ]
      refine anyU_val Later.pre 10 [11, 12, 13, 14, 15, 16, 18] rfl (by rfl) (by rfl) (by kernel_rfl) (by kernel_rfl) (by kernel_rfl) (by kernel_rfl) (by kernel_rfl) (fun _ _ _ _ h => by cases h.1) (by rfl) ?_; apply Exists.intro; refine ⟨fun v1 hv1 => ?_, ?_⟩; (· (go_simp; rfl)); simp only [Act.put, List.setIfInBounds_toArray, List.set_cons_zero, List.set_cons_succ]
      refine anyU_val Later.pre 11 [12, 13, 14, 15, 16, 18] rfl (by rfl) (by rfl) (by kernel_rfl) (by kernel_rfl) (by kernel_rfl) (by kernel_rfl) (by kernel_rfl) (fun _ _ _ _ h => by cases h.1) (by rfl) ?_; apply Exists.intro; refine ⟨fun v1 hv1 => ?_, ?_⟩; (· (go_simp; rfl)); simp only [Act.put, List.setIfInBounds_toArray, List.set_cons_zero, List.set_cons_succ]
      refine anyU_val Later.pre 12 [13, 14, 15, 16, 18] rfl (by rfl) (by rfl) (by kernel_rfl) (by kernel_rfl) (by kernel_rfl) (by kernel_rfl) (by kernel_rfl) (fun _ _ _ _ h => by cases h.1) (by rfl) ?_; apply Exists.intro; refine ⟨fun v1 hv1 => ?_, ?_⟩; (· (go_simp; rfl)); simp only [Act.put, List.setIfInBounds_toArray, List.set_cons_zero, List.set_cons_succ]
      refine anyU_val Later.pre 13 [14, 15, 16, 18] rfl (by rfl) (by rfl) (by kernel_rfl) (by kernel_rfl) (by kernel_rfl) (by kernel_rfl) (by kernel_rfl) (fun _ _ _ _ h => by cases h.1) (by rfl) ?_; apply Exists.intro; refine ⟨fun v1 hv1 => ?_, ?_⟩; (· (go_simp; rfl)); simp only [Act.put, List.setIfInBounds_toArray, List.set_cons_zero, List.set_cons_succ]
      refine anyU_val Later.pre 14 [15, 16, 18] rfl (by rfl) (by rfl) (by kernel_rfl) (by kernel_rfl) (by kernel_rfl) (by kernel_rfl) (by kernel_rfl) (fun _ _ _ _ h => by cases h.1) (by rfl) ?_; apply Exists.intro; refine ⟨fun v1 hv1 => ?_, ?_⟩; (· (go_simp; rfl)); simp only [Act.put, List.setIfInBounds_toArray, List.set_cons_zero, List.set_cons_succ]
      clear qM qN q0 q1
      refine anyU_one 15 rfl (by kernel_rfl) (by rfl) ?_
      have l2 := later_allocR Wd (.cells #[.string n1, .string n2] 64)
      have HNW := hide (heap_alloc_new Wd (.cells #[.string n1, .string n2] 64))
      unfold Oper.wp
      go_simp
      refine ⟨Rj_out (by rfl) l2, ?_⟩
      change wpAnyU _ _ _ _ _ _ _ _ _ _ (Wd.alloc (.cells #[.string n1, .string n2] 64))
      generalize Wd.alloc (.cells #[.string n1, .string n2] 64) = W5 at *
      generalize Wd.heap.size = gw at *
      have LL := ld.trans l2
      have EH5 := ownsS_ct EH.out (CTs.of LL)
      have EN5 := later_keep LL EN.out
      have E05 := later_keep LL E0.out
      have E15 := later_keep LL E1.out
      have hnk := block_cell HNW.out
      obtain ⟨i0, hi0, hz0, hz1, hz2⟩ := info_partsS info_hdrR
      have hgc5 : gc ≤ W5.heap.size := by have := LL.size; omega
      obtain ⟨v', W2, hrun, hrow, hg, _⟩ := run_append_own (P := Tryd.prog) W5 gc 29 29 64 i0 (.agg #[.string ⟨#[]⟩, .string ⟨#[]⟩]) 2 32 Tryd.underlying29 hi0 hz0 hz1 hz2 rfl (by decide) (.slice ha k hcp) k (hrs (hs.take k)) EH5 ⟨gw, 0, none⟩ 1 1 [.string n1, .string n2] rfl
        (fun j u hj => by
          rw [show (⟨gw, 0, none⟩ : Addr).add j = ⟨gw, 0 + j, none⟩ from by unfold Addr.add; split <;> simp_all]
          rw [Nat.zero_add, hnk j, ← hj]; simp)
        (by intro u hu; simp at hu; rcases hu with rfl | rfl <;> rfl) (by unfold maxLen; omega) (by omega) hgc5
      clear hnk
      refine anyU_one 16 rfl (by kernel_rfl) (by rfl) ?_
      refine wp_app (.tmp 22) (.tmp 36) 29 rfl _ _ rfl rfl v' W2 hrun ?_
      refine ⟨Rj_in (by rfl) trivial, ?_⟩
      simp only [Act.put, List.setIfInBounds_toArray, List.set_cons_zero, List.set_cons_succ]
      obtain ⟨a2, cp2, rfl⟩ := owns_form hrow
      have EN2 := keep_row EH5 hg EN5 (.inl fun cur f e => by cases e)
      have E02 := keep_row EH5 hg E05 (.inl fun cur f e => by cases e)
      have E12 := keep_row EH5 hg E15 (.inl fun cur f e => by cases e)
      refine anyU_one 17 rfl (by kernel_rfl) (by rfl) ?_
      refine wp_value (w' := W2) (.pointer (some ⟨gc + 1 + 1, 1, none⟩)) (by go_simp) ?_
      refine ⟨Rj_out (by rfl) (Later.refl _), ?_⟩
      simp only [Act.put, List.setIfInBounds_toArray, List.set_cons_zero, List.set_cons_succ]
      have k2 := block_cell EN2
      have f2 := block_frozen EN2
      refine anyU_one 18 rfl (by kernel_rfl) (by rfl) ?_
      unfold Oper.wp
      go_simp
      refine ⟨Rj_in (by rfl) trivial, ?_⟩
      clear k2 f2
      refine anyU_done (by kernel_rfl) ?_
      refine ⟨rfl, ?_⟩
      have EN8 := heap_set1 EN2 1 (.slice a2 (k + 1) cp2)
      have E08 := hsetS_ne (j := 1) (v := .slice a2 (k + 1) cp2) E02 (m := gc + 1 + 1) (by omega)
      have E18 := hsetS_ne (j := 1) (v := .slice a2 (k + 1) cp2) E12 (m := gc + 1 + 1) (by omega)
      have EH8 := own_set hrow EN2 (by decide) 1 (.slice a2 (k + 1) cp2)
      have B8 : Below gc wr (W2.setCell ⟨gc + 1 + 1, 1, none⟩ (.slice a2 (k + 1) cp2)) := ⟨hg.os.trans LL.os, hg.tape.trans LL.tape, hg.output.trans LL.output, by have := LL.size; have := hg.size; simp; omega, fun i hi => by
        cases hh : wr.heap[i]? with
        | none => have := Array.getElem?_eq_none_iff.1 hh; omega
        | some o => exact hsetS_ne (keep_row EH5 hg (later_keep LL hh) (.inr hi)) (by omega)⟩
      have EH9 : (W2.setCell ⟨gc + 1 + 1, 1, none⟩ (.slice a2 (k + 1) cp2)).ownsRow gc 64 2 (.slice a2 (k + 1) cp2) (k + 1) (hrs (hs.take (k + 1))) := by
        rw [HTK.out, hrs_snoc]
        exact EH8
      have HE8 := hide E08; have HF8 := hide E18; have HG8 := hide EN8; have HH9 := hide EH9; have HBL := hide (hbr.trans B8)
      clear E08 E18 EN8 EH9 EH8 B8 hrow E12 E02 EN2 hg hrun E15 E05 EN5 EH5
      generalize W2.setCell ⟨gc + 1 + 1, 1, none⟩ (.slice a2 (k + 1) cp2) = V8 at *
      go_wp2_with fail
      go_roundw
      case rel => exact ⟨k + 1, .slice a2 (k + 1) cp2, by omega, by go_num, HBL.out, HE8, HF8, HG8, HH9⟩
      case measure => simp [intOf]; omega
    · have hnl : ¬ (k : Int) < (hs.length : Int) := by omega
      have hkk : k = hs.length := by omega
      have HH9 : Hid (wr.ownsRow gc 64 2 (.slice ha k hcp) hs.length (hrs hs)) := by
        have := EH.out
        rw [hkk, List.take_length] at this
        rw [hkk]
        exact this
      clear hkk
      have k2 := block_cell EN.out
      have k4 := block_cell E1.out
      have f4 := block_frozen E1.out
      go_wp2_with fail
      generalize hV : (((wr.setCell ⟨gc + 1, 0, none⟩ _).setCell ⟨gc + 1, 1, none⟩ _).setCell ⟨gc + 1, 2, none⟩ _) = V8
      have hV9 : V8 = putRow wr (gc + 1) 0 [.string st, .slice ha k hcp, .slice ba zb.length bcp] := hV.symm
      have hb8 : But (fun b => b = gc + 1) wr V8 := by rw [hV9]; exact putRow_but (E := fun b => b = gc + 1) (n := gc + 1) rfl _ _ _ _ (But.refl _ _)
      have p8 := putRow_all [.string st, .slice ha k hcp, .slice ba zb.length bcp] E1.out rfl
      rw [← hV9] at p8
      clear hV hV9
      have P8 := block_cell p8
      have LWr : Below gc w wr := LWg.trans hbr
      have hw8 : Below gc w V8 := LWr.trans (hb8.below (by omega) (fun k h e => by omega))
      have hr8 := own_but (base' := gc) HH9.out hb8 E1.out (by decide) (Nat.le_refl _)
      exact bodyPost_ret (v := .agg #[.string st, .slice ha k hcp, .slice ba zb.length bcp]) (by simp [results, Tryd.results16, go_sem, P8]) rfl ⟨(by show Below w.heap.size w V8; rw [hgc]; exact hw8), _, rfl, hr8⟩
end Go.Proofs.YtehdgndbloaljaaDoor

/- A guarded operation that is not wanted is passed over. -/
namespace Go.Proofs.YtehdgndbloaljaaDoor
open Go.RowKit Go.Shelf
set_option maxRecDepth 100000
set_option linter.unusedVariables false
set_option linter.unusedSimpArgs false

section
variable {P : Program} {l : List Oper} {Q : Exit → Act → World → Prop} {fuel : Nat} {listed : Array Bool} {a : Act} {w : World} {R : World → World → Prop}
/-- Number i, whose guard does not hold, is passed over first. -/
theorem anyR_skipG (hp : Pre R) (i : Nat) {oi : Oper} (hi : nthOp l i = some oi)
    (hs : Region.noSelect l.toArray = true) (hf : Region.free .any l.toArray listed i = true) (hr : (Region.ready .any l.toArray listed).contains i = true)
    (hQ : ∀ v c a w, Q (.panic c) (a.put oi.dst v) w → Q (.panic c) a w) (hg : Region.wanted oi (yielded l.toArray a.tmps) = false)
    (h : wpAnyR P .any l.toArray Q R fuel (listed.setIfInBounds i true) (a.put oi.dst undef) w) : wpAnyR P .any l.toArray Q R (fuel + 1) listed a w := by
  have hi' : l.toArray[i]? = some oi := by rw [← hi, nthOp_eq]; simp
  exact wpAnyR_first hp.1 hp.2 hi' (Region.noSelect_spec hs) (hQ undef) fuel listed a w (Region.free_spec hi' hf) (by simpa using hr) (.inr ⟨hg, rfl⟩) h
end

end Go.Proofs.YtehdgndbloaljaaDoor

/- A guarded operation that is the only one to come next. -/
namespace Go.Proofs.YtehdgndbloaljaaDoor
open Go.RowKit Go.Shelf
set_option maxRecDepth 100000
set_option linter.unusedVariables false
set_option linter.unusedSimpArgs false

section
variable {P : Program} {l : List Oper} {Q : Exit → Act → World → Prop} {fuel : Nat} {listed : Array Bool} {a : Act} {w : World} {R : World → World → Prop}
theorem anyR_oneG (i : Nat) {oi : Oper} (hi : nthOp l i = some oi) (hr : Region.ready .any l.toArray listed = [i]) (hg : Region.wanted oi (yielded l.toArray a.tmps) = true)
    (h1 : ∀ w', R w w' → oi.wp P a w' (fun a' w'' => R w' w'' ∧ wpAnyR P .any l.toArray Q R fuel (listed.setIfInBounds i true) a' w'') Q) :
    wpAnyR P .any l.toArray Q R (fuel + 1) listed a w := by
  have hi' : l.toArray[i]? = some oi := by rw [← hi, nthOp_eq]; simp
  refine ⟨fun h0 => (by rw [hr] at h0; cases h0), fun k hk w' hw' => ?_⟩
  rw [hr] at hk
  unfold wpOp
  obtain rfl : k = i := by simpa using hk
  rw [hi']; simp only [hg, if_true]; exact .inl (h1 w' hw')
end

end Go.Proofs.YtehdgndbloaljaaDoor

/- The law's rewrite; the walk of SipRight. -/
namespace Go.Proofs.YtehdgndbloaljaaDoor
open Go.RowKit Go.Shelf
set_option maxRecDepth 100000
set_option linter.unusedVariables false
set_option linter.unusedSimpArgs false

/-- How long a message of few headers is. -/
theorem szM_few2 {st : ByteArray} {hs : List Hr} {n : Nat} (h1 : st.size ≤ 140737488351232) (h2 : ∀ o ∈ hs, o.1.size ≤ 140737488351232 ∧ o.2.size ≤ 140737488351232) (h3 : n ≤ 140737488351232) : szM st (hs.take 100) n ≤ 9000000000000000000 ∧ (hs.take 100).length ≤ 100 ∧ ∀ o ∈ hs.take 100, o.1.size ≤ 140737488355328 ∧ o.2.size ≤ 140737488355328 := by
  have hl : (hs.take 100).length ≤ 100 := by rw [List.length_take]; omega
  have h2' : ∀ o ∈ hs.take 100, o.1.size ≤ 140737488351232 ∧ o.2.size ≤ 140737488351232 := fun o ho => h2 o (List.mem_of_mem_take ho)
  generalize hs.take 100 = l at *
  have : ∀ m (l : List Hr), l.length ≤ m → (∀ o ∈ l, o.1.size ≤ 140737488351232 ∧ o.2.size ≤ 140737488351232) → hsz l ≤ m * 281474976702468 := by
    intro m
    induction m with
    | zero => intro l hl _; have : l = [] := List.eq_nil_of_length_eq_zero (by omega); subst this; simp [hsz]
    | succ m ih =>
      intro l hl h
      cases l with
      | nil => simp [hsz]
      | cons a l =>
        have h1 := ih l (by simpa using hl) (fun o ho => h o (by simp [ho]))
        have h2 := h a (by simp)
        unfold hsz at h1 ⊢
        simp only [List.map_cons, List.sum_cons]
        omega
  have h4 := this 100 l hl h2'
  unfold szM
  exact ⟨by omega, hl, fun o ho => by have := h2' o ho; omega⟩

theorem rwHs_names (c : Cg) (st : ByteArray) (hs : List Hr) (zb : List Int) : (rwHs c st hs zb).length = hs.length ∧ ∀ j (h1 : j < hs.length) (h2 : j < (rwHs c st hs zb).length), (rwHs c st hs zb)[j].1 = hs[j].1 := by
  unfold rwHs
  split
  · unfold mgH
    exact ⟨by simp, fun j h1 h2 => by simp⟩
  · exact ⟨rfl, fun j h1 h2 => rfl⟩
theorem rw_right (c : Cg) (st : ByteArray) (hs : List Hr) (zb : List Int) : rgB st (rwHs c st hs zb) (rwZb c st hs zb).length = rgB st hs zb.length := by
  unfold rwHs rwZb
  split
  · rename_i ok
    unfold rwOk at ok
    simp only [Bool.and_eq_true] at ok
    rw [nmsB_len, ok.1, ok.2]
  · rfl
theorem rw_sz (c : Cg) (hc : c.wf) (st : ByteArray) (hs : List Hr) (zb : List Int) (hz : szM st hs zb.length ≤ 9000000000000000000) (hb : ∀ o ∈ hs, o.1.size ≤ 140737488355328 ∧ o.2.size ≤ 140737488355328) :
    szM st (rwHs c st hs zb) (rwZb c st hs zb).length ≤ 9000000000000000000 ∧ ∀ o ∈ rwHs c st hs zb, o.1.size ≤ 140737488355328 ∧ o.2.size ≤ 140737488355328 := by
  unfold rwHs rwZb
  split
  · rename_i ok
    unfold rwOk at ok
    simp only [Bool.and_eq_true] at ok
    rw [nmsB_len]
    have h1 := rgB_sz ok.2
    have h2 := (rgB_facts ok.2).2.2.2.2
    exact ⟨by omega, fun o ho => by have := h2 o ho; omega⟩
  · exact ⟨hz, hb⟩
end Go.Proofs.YtehdgndbloaljaaDoor
