/- Package ftp: digits, past. -/
import Derived.Test.YtfnlakpjepjhbaaDoorFD
namespace Go.Proofs.YtfnlakpjepjhbaaDoor
open Go.RowKit Go.Shelf
set_option maxRecDepth 100000
set_option linter.unusedVariables false
set_option linter.unusedSimpArgs false

/-- How far the digits go, from a place on, within so many. -/
def dgE (zs : List Int) : Nat → Nat → Nat
  | 0, p => p
  | k + 1, p => if p < zs.length ∧ dgt (zs[p]?.getD 0) = true then dgE zs k (p + 1) else p
theorem dgE_le (zs : List Int) : ∀ k p, p ≤ zs.length → p ≤ dgE zs k p ∧ dgE zs k p ≤ zs.length
  | 0, p, h => ⟨Nat.le_refl _, h⟩
  | k + 1, p, h => by
    unfold dgE
    split
    · rename_i hq
      have := dgE_le zs k (p + 1) (by omega)
      omega
    · exact ⟨Nat.le_refl _, h⟩
/-- Where the digits end. -/
def dgZ (zs : List Int) (p : Nat) : Nat := dgE zs (zs.length - p) p
theorem dgZ_go {zs : List Int} {p : Nat} (h : p < zs.length) (hd : dgt (zs[p]?.getD 0) = true) : dgZ zs p = dgZ zs (p + 1) := by
  unfold dgZ
  rw [show zs.length - p = (zs.length - (p + 1)) + 1 by omega]
  show (if _ then _ else _) = _
  rw [if_pos ⟨h, hd⟩]
theorem dgZ_stop {zs : List Int} {p : Nat} (h : p < zs.length) (hd : dgt (zs[p]?.getD 0) = false) : dgZ zs p = p := by
  unfold dgZ
  rw [show zs.length - p = (zs.length - (p + 1)) + 1 by omega]
  show (if _ then _ else _) = _
  rw [if_neg (by rw [hd]; simp)]
theorem dgZ_end {zs : List Int} {p : Nat} (h : p = zs.length) : dgZ zs p = p := by
  unfold dgZ
  rw [h, Nat.sub_self]
  rfl
theorem dgZ_le {zs : List Int} {p : Nat} (h : p ≤ zs.length) : p ≤ dgZ zs p ∧ dgZ zs p ≤ zs.length := dgE_le zs _ p h
theorem OnlyB.below {rb n : Nat} {w w' : World} (h : OnlyB rb w w') (hn : n ≤ w.heap.size) (hr : n ≤ rb) : Below n w w' := But.below h hn (fun k hk e => by omega)
/-- How many are left. -/
def atM (zs : List Int) (rb : Nat) (w : World) : Nat := zs.length - (intOf ((w.cell? ⟨rb, 1, none⟩).getD undef)).toNat
theorem atM_is {zs : List Int} {rb : Nat} {w : World} {bv : Value} {r : Rr} (h : RB w rb bv r) : atM zs rb w = zs.length - r.at0 := by
  unfold atM
  rw [block_cell h 1]
  simp [rrc, intOf]
/-- Bytes from a place to another one, as a string. -/
theorem conv_mid {n₀ : Nat} {A : World} {bb off cp : Nat} {zs : List Int} (s p : Nat) (h : Rd n₀ A (.slice (some ⟨bb, off, none⟩) zs.length cp) zs) (hs : s ≤ p) (hp : p ≤ zs.length) :
    (convert 26 9 (.slice (if cp = s then some ⟨bb, off, none⟩ else some ⟨bb, off + s, none⟩) (p - s) (cp - s))).run Tryd.prog A = .ok (.string (strOfNums ((zs.drop s).take (p - s)))) A := by
  obtain ⟨_, _, e, hc1, hc2⟩ := h.slice
  simp at e
  obtain ⟨_, rfl⟩ := e
  refine conv_rd (n₀ := n₀) 26 9 5 Tryd.underlying26 Tryd.underlying5 Tryd.underlying9 ?_
  by_cases hps : p - s = 0
  · rw [hps]
    exact .inl ⟨_, _, rfl, by simp, by omega, fun h => by split at h <;> cases h⟩
  · rw [if_neg (by omega)]
    exact Rd.mid s (p - s) h (by omega) (by omega)

set_option maxHeartbeats 8000000 in
theorem digits_any (rb : Nat) (bb off cp n₀ : Nat) (zs : List Int) (hz : Mt.By zs) (r : Rr) (w : World) (h : RB w rb (.slice (some ⟨bb, off, none⟩) zs.length cp) r) (hI : Rd n₀ w (.slice (some ⟨bb, off, none⟩) zs.length cp) zs) (hl : zs.length ≤ 1000) (ha : r.at0 ≤ zs.length) (hn0 : n₀ ≤ w.heap.size) (hrb : n₀ ≤ rb) :
    Calls Tryd.prog 49 #[.pointer (some ⟨rb, 0, none⟩)] w fun e w' => e = .returned (.string (strOfNums ((zs.drop r.at0).take (dgZ zs r.at0 - r.at0)))) ∧ OnlyB rb w w' ∧ RB w' rb (.slice (some ⟨bb, off, none⟩) zs.length cp) (atR r (dgZ zs r.at0)) := by
  have HB := hide h
  have k0 := block_cell h
  unfold rrc at k0
  have HI := hide hI
  have g1 : (zs.length : Int) ≤ 1000 := by omega
  have HA := hide ha
  have hcp : zs.length ≤ cp := by obtain ⟨_, _, e, h1, _⟩ := hI.slice; simp at e; omega
  clear h hI
  go_enter Tryd.func49, Tryd.ntmps49
  have HD0 : Hid (dgZ zs r.at0 = dgZ zs r.at0) := rfl
  generalize hdz : dgZ zs r.at0 = dz at *
  have HDZ := hide hdz
  clear hdz HD0
  go_wp2_with fail
  go_loopw [] (fun wr => ∃ p : Nat, r.at0 ≤ p ∧ p ≤ zs.length ∧ dgZ zs p = dz ∧ OnlyB rb w wr ∧ RB wr rb (.slice (some ⟨bb, off, none⟩) zs.length cp) (atR r p)) (fun wr => atM zs rb wr)
  case atStart => exact ⟨r.at0, Nat.le_refl _, HA.out, HDZ.out, But.refl _ _, HB.out⟩
  case round =>
    obtain ⟨p, hp1, hp2, hdp, ho, hb⟩ := hrel
    have hIr := HI.out.below (OnlyB.below ho hn0 hrb)
    have HBR := hide hb
    have HM := hide (atM_is (zs := zs) hb)
    have HO := hide ho
    have HDP := hide hdp
    have g2 : (p : Int) ≤ 1000 := by omega
    have hws : w.heap.size ≤ wr.heap.size := But.size ho
    have HIR := hide hIr
    clear hb ho hdp
    by_cases hlt : p < zs.length
    · have hlt1 : (p : Int) < (zs.length : Int) := by omega
      have hby : 0 ≤ zs[p] ∧ zs[p] ≤ 255 := hz _ (List.getElem_mem hlt)
      obtain ⟨bc, hbc⟩ : ∃ c, zs[p]?.getD 0 = c := ⟨_, rfl⟩
      have hbr : 0 ≤ bc ∧ bc ≤ 255 := by rw [← hbc, List.getElem?_eq_getElem hlt]; exact hby
      obtain ⟨hbr1, hbr2⟩ := hbr
      have hcell : wr.cell? ⟨bb, off + p, none⟩ = some (.int .u8 bc) := by
        rcases hIr with ⟨a, c, e, hz2, _⟩ | ⟨b', o', c', e, _, _, _, _, hc⟩
        · rw [hz2] at hlt; simp at hlt
        · simp at e
          obtain ⟨⟨rfl, rfl⟩, rfl⟩ := e
          rw [hc p hlt, hbc]
      have HWB : Hid (IntKind.i32.wrap bc = bc) := by show _ = _; simp [IntKind.wrap, IntKind.signed, IntKind.bits]; omega
      have HCE := hide hcell
      clear hIr hcell k0
      go_upto_region 2 with fail
      refine anyR_begin Later.pre Later.drew 24 rfl (by kernel_rfl) ?_
      intro Wd hWd
      have hac : ∀ v1, Later Wd v1 → ∀ j, v1.cell? ⟨rb, j, none⟩ = #[Value.slice (some ⟨bb, off, none⟩) zs.length cp, .int .i64 (p : Int), .int .i64 r.kd, .int .i64 r.st, .int .i64 r.en, .int .u32 r.ad, .int .u16 r.pt][j]? := fun v1 hv => block_cell (later_keep (hWd.trans hv) HBR.out)
      have hce : ∀ v1, Later Wd v1 → v1.cell? ⟨bb, off + p, none⟩ = some (.int .u8 bc) := fun v1 hv => (hWd.trans hv).cell HCE.out
      refine anyR_val Later.pre 0 rfl (by kernel_rfl) (by kernel_rfl) (by kernel_rfl) (fun _ _ _ _ h => h) rfl ?_; apply Exists.intro; refine ⟨fun v1 hv1 => ?_, ?_⟩; (· (go_simp; rfl)); simp only [Act.put, List.setIfInBounds_toArray, List.set_cons_zero, List.set_cons_succ]
      refine anyR_val Later.pre 1 rfl (by kernel_rfl) (by kernel_rfl) (by kernel_rfl) (fun _ _ _ _ h => h) rfl ?_; apply Exists.intro; refine ⟨fun v1 hv1 => ?_, ?_⟩; (· (go_simp; rfl)); simp only [Act.put, List.setIfInBounds_toArray, List.set_cons_zero, List.set_cons_succ]
      refine anyR_val Later.pre 2 rfl (by kernel_rfl) (by kernel_rfl) (by kernel_rfl) (fun _ _ _ _ h => h) rfl ?_; apply Exists.intro; refine ⟨fun v1 hv1 => ?_, ?_⟩; (· (go_simp; rfl)); simp only [Act.put, List.setIfInBounds_toArray, List.set_cons_zero, List.set_cons_succ]
      refine anyR_val Later.pre 3 rfl (by kernel_rfl) (by kernel_rfl) (by kernel_rfl) (fun _ _ _ _ h => h) rfl ?_; apply Exists.intro; refine ⟨fun v1 hv1 => ?_, ?_⟩; (· (go_simp; rfl)); simp only [Act.put, List.setIfInBounds_toArray, List.set_cons_zero, List.set_cons_succ]
      refine anyR_val Later.pre 4 rfl (by kernel_rfl) (by kernel_rfl) (by kernel_rfl) (fun _ _ _ _ h => h) rfl ?_; apply Exists.intro; refine ⟨fun v1 hv1 => ?_, ?_⟩; (· (go_simp; rfl)); simp only [Act.put, List.setIfInBounds_toArray, List.set_cons_zero, List.set_cons_succ]
      refine anyR_val Later.pre 5 rfl (by kernel_rfl) (by kernel_rfl) (by kernel_rfl) (fun _ _ _ _ h => h) rfl ?_; apply Exists.intro; refine ⟨fun v1 hv1 => ?_, ?_⟩; (· (go_simp; rfl)); simp only [Act.put, List.setIfInBounds_toArray, List.set_cons_zero, List.set_cons_succ]
      refine anyR_val Later.pre 6 rfl (by kernel_rfl) (by kernel_rfl) (by kernel_rfl) (fun _ _ _ _ h => h) rfl ?_; apply Exists.intro; refine ⟨fun v1 hv1 => ?_, ?_⟩; (· (go_simp; rfl)); simp only [Act.put, List.setIfInBounds_toArray, List.set_cons_zero, List.set_cons_succ]
      refine anyR_val Later.pre 7 rfl (by kernel_rfl) (by kernel_rfl) (by kernel_rfl) (fun _ _ _ _ h => h) rfl ?_; apply Exists.intro; refine ⟨fun v1 hv1 => ?_, ?_⟩; (· (go_simp; rfl)); simp only [Act.put, List.setIfInBounds_toArray, List.set_cons_zero, List.set_cons_succ]
      refine anyR_val Later.pre 8 rfl (by kernel_rfl) (by kernel_rfl) (by kernel_rfl) (fun _ _ _ _ h => h) rfl ?_; apply Exists.intro; refine ⟨fun v1 hv1 => ?_, ?_⟩; (· (go_simp; rfl)); simp only [Act.put, List.setIfInBounds_toArray, List.set_cons_zero, List.set_cons_succ]
      refine anyR_val Later.pre 9 rfl (by kernel_rfl) (by kernel_rfl) (by kernel_rfl) (fun _ _ _ _ h => h) rfl ?_; apply Exists.intro; refine ⟨fun v1 hv1 => ?_, ?_⟩; (· (go_simp; rfl)); simp only [Act.put, List.setIfInBounds_toArray, List.set_cons_zero, List.set_cons_succ]
      refine anyR_val Later.pre 10 rfl (by kernel_rfl) (by kernel_rfl) (by kernel_rfl) (fun _ _ _ _ h => h) rfl ?_; apply Exists.intro; refine ⟨fun v1 hv1 => ?_, ?_⟩; (· (go_simp; rfl)); simp only [Act.put, List.setIfInBounds_toArray, List.set_cons_zero, List.set_cons_succ]
      refine anyR_valG Later.pre 11 rfl (by kernel_rfl) (by kernel_rfl) (by kernel_rfl) (fun _ _ _ _ h => h) (by rfl) ?_; apply Exists.intro; refine ⟨fun v1 hv1 => ?_, ?_⟩; (· (go_simp; rfl)); simp only [Act.put, List.setIfInBounds_toArray, List.set_cons_zero, List.set_cons_succ]
      refine anyR_valG Later.pre 12 rfl (by kernel_rfl) (by kernel_rfl) (by kernel_rfl) (fun _ _ _ _ h => h) (by rfl) ?_; apply Exists.intro; refine ⟨fun v1 hv1 => ?_, ?_⟩; (· (go_simp; rfl)); simp only [Act.put, List.setIfInBounds_toArray, List.set_cons_zero, List.set_cons_succ]
      refine anyR_valG Later.pre 13 rfl (by kernel_rfl) (by kernel_rfl) (by kernel_rfl) (fun _ _ _ _ h => h) (by rfl) ?_; apply Exists.intro; refine ⟨fun v1 hv1 => ?_, ?_⟩; (· (go_simp; rfl)); simp only [Act.put, List.setIfInBounds_toArray, List.set_cons_zero, List.set_cons_succ]
      refine anyR_valG Later.pre 14 rfl (by kernel_rfl) (by kernel_rfl) (by kernel_rfl) (fun _ _ _ _ h => h) (by rfl) ?_; apply Exists.intro; refine ⟨fun v1 hv1 => ?_, ?_⟩; (· (go_simp; rfl)); simp only [Act.put, List.setIfInBounds_toArray, List.set_cons_zero, List.set_cons_succ]
      refine anyR_valG Later.pre 15 rfl (by kernel_rfl) (by kernel_rfl) (by kernel_rfl) (fun _ _ _ _ h => h) (by rfl) ?_; apply Exists.intro; refine ⟨fun v1 hv1 => ?_, ?_⟩; (· (go_simp; rfl)); simp only [Act.put, List.setIfInBounds_toArray, List.set_cons_zero, List.set_cons_succ]
      refine anyR_valG Later.pre 16 rfl (by kernel_rfl) (by kernel_rfl) (by kernel_rfl) (fun _ _ _ _ h => h) (by rfl) ?_; apply Exists.intro; refine ⟨fun v1 hv1 => ?_, ?_⟩; (· (go_simp; rfl)); simp only [Act.put, List.setIfInBounds_toArray, List.set_cons_zero, List.set_cons_succ]
      refine anyR_valG Later.pre 17 rfl (by kernel_rfl) (by kernel_rfl) (by kernel_rfl) (fun _ _ _ _ h => h) (by rfl) ?_; apply Exists.intro; refine ⟨fun v1 hv1 => ?_, ?_⟩; (· (go_simp; rfl)); simp only [Act.put, List.setIfInBounds_toArray, List.set_cons_zero, List.set_cons_succ]
      refine anyR_valG Later.pre 18 rfl (by kernel_rfl) (by kernel_rfl) (by kernel_rfl) (fun _ _ _ _ h => h) (by rfl) ?_; apply Exists.intro; refine ⟨fun v1 hv1 => ?_, ?_⟩; (· (go_simp; rfl)); simp only [Act.put, List.setIfInBounds_toArray, List.set_cons_zero, List.set_cons_succ]
      refine anyR_valG Later.pre 19 rfl (by kernel_rfl) (by kernel_rfl) (by kernel_rfl) (fun _ _ _ _ h => h) (by rfl) ?_; apply Exists.intro; refine ⟨fun v1 hv1 => ?_, ?_⟩; (· (go_simp; rfl)); simp only [Act.put, List.setIfInBounds_toArray, List.set_cons_zero, List.set_cons_succ]
      refine anyR_valG Later.pre 20 rfl (by kernel_rfl) (by kernel_rfl) (by kernel_rfl) (fun _ _ _ _ h => h) (by rfl) ?_; apply Exists.intro; refine ⟨fun v1 hv1 => ?_, ?_⟩; (· (go_simp; rfl)); simp only [Act.put, List.setIfInBounds_toArray, List.set_cons_zero, List.set_cons_succ]
      refine anyR_valG Later.pre 21 rfl (by kernel_rfl) (by kernel_rfl) (by kernel_rfl) (fun _ _ _ _ h => h) (by rfl) ?_; apply Exists.intro; refine ⟨fun v1 hv1 => ?_, ?_⟩; (· (go_simp; rfl)); simp only [Act.put, List.setIfInBounds_toArray, List.set_cons_zero, List.set_cons_succ]
      simp only [HWB.out]
      clear hac hce
      refine anyR_takeG Later.pre 22 (.bool (dgt bc)) rfl (by kernel_rfl) (by kernel_rfl) (by kernel_rfl) (fun _ _ _ h => h) (by rfl) (fun w1 hw1 => goes_call 70 #[.int .i32 bc] (by go_simp) ((isDigit_any bc w1).mono fun e w2 h => ⟨h.1, by rw [h.2]; exact Later.refl _⟩)) ?_
      simp only [Act.put, List.setIfInBounds_toArray, List.set_cons_zero, List.set_cons_succ]
      cases hdg : dgt bc with
      | true =>
        have HDZ2 : Hid (dgZ zs (p + 1) = dz) := by show _ = _; rw [← HDP.out]; exact (dgZ_go hlt (by rw [hbc]; exact hdg)).symm
        clear hdg hbc
        refine anyR_val Later.pre 23 rfl (by kernel_rfl) (by kernel_rfl) (by kernel_rfl) (fun _ _ _ _ h => h) rfl ?_; apply Exists.intro; refine ⟨fun v1 hv1 => ?_, ?_⟩; (· (go_simp; rfl)); simp only [Act.put, List.setIfInBounds_toArray, List.set_cons_zero, List.set_cons_succ]
        refine anyR_done (by kernel_rfl) (fun VD hVD => ?_)
        have LV : Later wr VD := hWd.trans hVD
        have hBV := RB.later HBR.out LV
        have kv := block_cell hBV
        have fv := block_frozen hBV
        unfold rrc atR at kv
        have HST := hide (heap_set1 hBV 1 (.int .i64 ((p + 1 : Nat) : Int)))
        have e1 : (p : Int) + 1 = ((p + 1 : Nat) : Int) := by omega
        have HE1 := hide e1
        clear e1
        go_wp2_with fail
        rw [HE1.out]
        go_roundw
        case rel => exact ⟨p + 1, by omega, by omega, HDZ2.out, HO.out.trans ((But.of LV).trans ((But.refl (fun g => g = rb) _).setCell (p := ⟨rb, 1, none⟩) rfl _)), HST.out⟩
        case measure =>
          have h1 := atM_is (zs := zs) (r := atR r (p + 1)) (bv := .slice (some ⟨bb, off, none⟩) zs.length cp) HST.out
          have h2 := HM.out
          simp only [atR] at h1 h2
          omega
      | false =>
        have HDZ2 : Hid (dz = p) := by show _ = _; rw [← HDP.out]; exact dgZ_stop hlt (by rw [hbc]; exact hdg)
        clear hdg hbc
        refine anyR_val Later.pre 23 rfl (by kernel_rfl) (by kernel_rfl) (by kernel_rfl) (fun _ _ _ _ h => h) rfl ?_; apply Exists.intro; refine ⟨fun v1 hv1 => ?_, ?_⟩; (· (go_simp; rfl)); simp only [Act.put, List.setIfInBounds_toArray, List.set_cons_zero, List.set_cons_succ]
        refine anyR_done (by kernel_rfl) (fun VD hVD => ?_)
        have LVa : Later wr VD := hWd.trans hVD
        have hc3 : r.at0 ≤ p := hp1
        have hc4 : (p : Int) ≤ (cp : Int) := by omega
        have hc5 : (r.at0 : Int) ≤ (p : Int) := by omega
        have hac2 : ∀ v1, Later VD v1 → ∀ j, v1.cell? ⟨rb, j, none⟩ = #[Value.slice (some ⟨bb, off, none⟩) zs.length cp, .int .i64 (p : Int), .int .i64 r.kd, .int .i64 r.st, .int .i64 r.en, .int .u32 r.ad, .int .u16 r.pt][j]? := fun v1 hv => block_cell (later_keep (LVa.trans hv) HBR.out)
        have kv := hac2 VD (Later.refl _)
        go_upto_region 4 with fail
        clear kv
        refine anyR_begin Later.pre Later.drew 12 rfl (by kernel_rfl) ?_
        intro We hWe
        have hac3 : ∀ v1, Later We v1 → ∀ j, v1.cell? ⟨rb, j, none⟩ = #[Value.slice (some ⟨bb, off, none⟩) zs.length cp, .int .i64 (p : Int), .int .i64 r.kd, .int .i64 r.st, .int .i64 r.en, .int .u32 r.ad, .int .u16 r.pt][j]? := fun v1 hv => hac2 v1 (hWe.trans hv)
        have hcv : ∀ v1, Later We v1 → (convert 26 9 (.slice (if cp = r.at0 then some ⟨bb, off, none⟩ else some ⟨bb, off + r.at0, none⟩) (p - r.at0) (cp - r.at0))).run Tryd.prog v1 = .ok (.string (strOfNums ((zs.drop r.at0).take (p - r.at0)))) v1 := fun v1 hv => conv_mid r.at0 p (HIR.out.below (Below.mono (LVa.trans (hWe.trans hv)) (by omega))) hp1 hp2
        clear hac2
        refine anyR_val Later.pre 0 rfl (by kernel_rfl) (by kernel_rfl) (by kernel_rfl) (fun _ _ _ _ h => h) rfl ?_; apply Exists.intro; refine ⟨fun v1 hv1 => ?_, ?_⟩; (· (go_simp; rfl)); simp only [Act.put, List.setIfInBounds_toArray, List.set_cons_zero, List.set_cons_succ]
        refine anyR_val Later.pre 1 rfl (by kernel_rfl) (by kernel_rfl) (by kernel_rfl) (fun _ _ _ _ h => h) rfl ?_; apply Exists.intro; refine ⟨fun v1 hv1 => ?_, ?_⟩; (· (go_simp; rfl)); simp only [Act.put, List.setIfInBounds_toArray, List.set_cons_zero, List.set_cons_succ]
        refine anyR_val Later.pre 2 rfl (by kernel_rfl) (by kernel_rfl) (by kernel_rfl) (fun _ _ _ _ h => h) rfl ?_; apply Exists.intro; refine ⟨fun v1 hv1 => ?_, ?_⟩; (· (go_simp; rfl)); simp only [Act.put, List.setIfInBounds_toArray, List.set_cons_zero, List.set_cons_succ]
        refine anyR_val Later.pre 3 rfl (by kernel_rfl) (by kernel_rfl) (by kernel_rfl) (fun _ _ _ _ h => h) rfl ?_; apply Exists.intro; refine ⟨fun v1 hv1 => ?_, ?_⟩; (· (go_simp; rfl)); simp only [Act.put, List.setIfInBounds_toArray, List.set_cons_zero, List.set_cons_succ]
        refine anyR_val Later.pre 4 rfl (by kernel_rfl) (by kernel_rfl) (by kernel_rfl) (fun _ _ _ _ h => h) rfl ?_; apply Exists.intro; refine ⟨fun v1 hv1 => ?_, ?_⟩; (· (go_simp; rfl)); simp only [Act.put, List.setIfInBounds_toArray, List.set_cons_zero, List.set_cons_succ]
        refine anyR_val Later.pre 5 rfl (by kernel_rfl) (by kernel_rfl) (by kernel_rfl) (fun _ _ _ _ h => h) rfl ?_; apply Exists.intro; refine ⟨fun v1 hv1 => ?_, ?_⟩; (· (go_simp; rfl)); simp only [Act.put, List.setIfInBounds_toArray, List.set_cons_zero, List.set_cons_succ]
        refine anyR_val Later.pre 6 rfl (by kernel_rfl) (by kernel_rfl) (by kernel_rfl) (fun _ _ _ _ h => h) rfl ?_; apply Exists.intro; refine ⟨fun v1 hv1 => ?_, ?_⟩; (· (go_simp; rfl)); simp only [Act.put, List.setIfInBounds_toArray, List.set_cons_zero, List.set_cons_succ]
        refine anyR_val Later.pre 7 rfl (by kernel_rfl) (by kernel_rfl) (by kernel_rfl) (fun _ _ _ _ h => h) rfl ?_; apply Exists.intro; refine ⟨fun v1 hv1 => ?_, ?_⟩; (· (go_simp; rfl)); simp only [Act.put, List.setIfInBounds_toArray, List.set_cons_zero, List.set_cons_succ]
        refine anyR_val Later.pre 8 rfl (by kernel_rfl) (by kernel_rfl) (by kernel_rfl) (fun _ _ _ _ h => h) rfl ?_; apply Exists.intro; refine ⟨fun v1 hv1 => ?_, ?_⟩; (· (go_simp; rfl)); simp only [Act.put, List.setIfInBounds_toArray, List.set_cons_zero, List.set_cons_succ]
        refine anyR_val Later.pre 9 rfl (by kernel_rfl) (by kernel_rfl) (by kernel_rfl) (fun _ _ _ _ h => h) rfl ?_; apply Exists.intro; refine ⟨fun v1 hv1 => ?_, ?_⟩; (· (go_simp; rfl)); simp only [Act.put, List.setIfInBounds_toArray, List.set_cons_zero, List.set_cons_succ]
        refine anyR_val Later.pre 10 rfl (by kernel_rfl) (by kernel_rfl) (by kernel_rfl) (fun _ _ _ _ h => h) rfl ?_; apply Exists.intro; refine ⟨fun v1 hv1 => ?_, ?_⟩; (· (go_simp; rfl)); simp only [Act.put, List.setIfInBounds_toArray, List.set_cons_zero, List.set_cons_succ]
        generalize (if cp = r.at0 then some (⟨bb, off, none⟩ : Addr) else some ⟨bb, off + r.at0, none⟩) = ifa at *
        clear hac3 hcv
        refine anyR_val Later.pre 11 rfl (by kernel_rfl) (by kernel_rfl) (by kernel_rfl) (fun _ _ _ _ h => h) rfl ?_; apply Exists.intro; refine ⟨fun v1 hv1 => ?_, ?_⟩; (· (go_simp; rfl)); simp only [Act.put, List.setIfInBounds_toArray, List.set_cons_zero, List.set_cons_succ]
        refine anyR_done (by kernel_rfl) (fun VF hVF => ?_)
        have LF : Later wr VF := LVa.trans (hWe.trans hVF)
        go_wp2_with fail
        refine bodyPost_ret (v := .string (strOfNums ((zs.drop r.at0).take (p - r.at0)))) (by simp [results, Tryd.results49, go_sem]) rfl ?_
        rw [HDZ2.out]
        exact ⟨rfl, HO.out.trans (But.of LF), RB.later HBR.out LF⟩
    · have hlt1 : ¬ (p : Int) < (zs.length : Int) := by omega
      have ep : p = zs.length := by omega
      have hdz : dz = p := by rw [← HDP.out]; exact dgZ_end ep
      have HDZ2 := hide hdz
      clear hdz ep hIr k0
      go_upto_region 2 with fail
      refine anyR_begin Later.pre Later.drew 24 rfl (by kernel_rfl) ?_
      intro Wd hWd
      have hac : ∀ v1, Later Wd v1 → ∀ j, v1.cell? ⟨rb, j, none⟩ = #[Value.slice (some ⟨bb, off, none⟩) zs.length cp, .int .i64 (p : Int), .int .i64 r.kd, .int .i64 r.st, .int .i64 r.en, .int .u32 r.ad, .int .u16 r.pt][j]? := fun v1 hv => block_cell (later_keep (hWd.trans hv) HBR.out)
      refine anyR_val Later.pre 0 rfl (by kernel_rfl) (by kernel_rfl) (by kernel_rfl) (fun _ _ _ _ h => h) rfl ?_; apply Exists.intro; refine ⟨fun v1 hv1 => ?_, ?_⟩; (· (go_simp; rfl)); simp only [Act.put, List.setIfInBounds_toArray, List.set_cons_zero, List.set_cons_succ]
      refine anyR_val Later.pre 1 rfl (by kernel_rfl) (by kernel_rfl) (by kernel_rfl) (fun _ _ _ _ h => h) rfl ?_; apply Exists.intro; refine ⟨fun v1 hv1 => ?_, ?_⟩; (· (go_simp; rfl)); simp only [Act.put, List.setIfInBounds_toArray, List.set_cons_zero, List.set_cons_succ]
      refine anyR_val Later.pre 2 rfl (by kernel_rfl) (by kernel_rfl) (by kernel_rfl) (fun _ _ _ _ h => h) rfl ?_; apply Exists.intro; refine ⟨fun v1 hv1 => ?_, ?_⟩; (· (go_simp; rfl)); simp only [Act.put, List.setIfInBounds_toArray, List.set_cons_zero, List.set_cons_succ]
      refine anyR_val Later.pre 3 rfl (by kernel_rfl) (by kernel_rfl) (by kernel_rfl) (fun _ _ _ _ h => h) rfl ?_; apply Exists.intro; refine ⟨fun v1 hv1 => ?_, ?_⟩; (· (go_simp; rfl)); simp only [Act.put, List.setIfInBounds_toArray, List.set_cons_zero, List.set_cons_succ]
      refine anyR_val Later.pre 4 rfl (by kernel_rfl) (by kernel_rfl) (by kernel_rfl) (fun _ _ _ _ h => h) rfl ?_; apply Exists.intro; refine ⟨fun v1 hv1 => ?_, ?_⟩; (· (go_simp; rfl)); simp only [Act.put, List.setIfInBounds_toArray, List.set_cons_zero, List.set_cons_succ]
      refine anyR_val Later.pre 5 rfl (by kernel_rfl) (by kernel_rfl) (by kernel_rfl) (fun _ _ _ _ h => h) rfl ?_; apply Exists.intro; refine ⟨fun v1 hv1 => ?_, ?_⟩; (· (go_simp; rfl)); simp only [Act.put, List.setIfInBounds_toArray, List.set_cons_zero, List.set_cons_succ]
      refine anyR_val Later.pre 6 rfl (by kernel_rfl) (by kernel_rfl) (by kernel_rfl) (fun _ _ _ _ h => h) rfl ?_; apply Exists.intro; refine ⟨fun v1 hv1 => ?_, ?_⟩; (· (go_simp; rfl)); simp only [Act.put, List.setIfInBounds_toArray, List.set_cons_zero, List.set_cons_succ]
      refine anyR_val Later.pre 7 rfl (by kernel_rfl) (by kernel_rfl) (by kernel_rfl) (fun _ _ _ _ h => h) rfl ?_; apply Exists.intro; refine ⟨fun v1 hv1 => ?_, ?_⟩; (· (go_simp; rfl)); simp only [Act.put, List.setIfInBounds_toArray, List.set_cons_zero, List.set_cons_succ]
      refine anyR_val Later.pre 8 rfl (by kernel_rfl) (by kernel_rfl) (by kernel_rfl) (fun _ _ _ _ h => h) rfl ?_; apply Exists.intro; refine ⟨fun v1 hv1 => ?_, ?_⟩; (· (go_simp; rfl)); simp only [Act.put, List.setIfInBounds_toArray, List.set_cons_zero, List.set_cons_succ]
      refine anyR_val Later.pre 9 rfl (by kernel_rfl) (by kernel_rfl) (by kernel_rfl) (fun _ _ _ _ h => h) rfl ?_; apply Exists.intro; refine ⟨fun v1 hv1 => ?_, ?_⟩; (· (go_simp; rfl)); simp only [Act.put, List.setIfInBounds_toArray, List.set_cons_zero, List.set_cons_succ]
      refine anyR_val Later.pre 10 rfl (by kernel_rfl) (by kernel_rfl) (by kernel_rfl) (fun _ _ _ _ h => h) rfl ?_; apply Exists.intro; refine ⟨fun v1 hv1 => ?_, ?_⟩; (· (go_simp; rfl)); simp only [Act.put, List.setIfInBounds_toArray, List.set_cons_zero, List.set_cons_succ]
      refine anyR_skipG Later.pre 11 rfl (by kernel_rfl) (by kernel_rfl) (by kernel_rfl) (fun _ _ _ _ h => h) (by rfl) ?_; simp only [Act.put, List.setIfInBounds_toArray, List.set_cons_zero, List.set_cons_succ]
      refine anyR_skipG Later.pre 12 rfl (by kernel_rfl) (by kernel_rfl) (by kernel_rfl) (fun _ _ _ _ h => h) (by rfl) ?_; simp only [Act.put, List.setIfInBounds_toArray, List.set_cons_zero, List.set_cons_succ]
      refine anyR_skipG Later.pre 13 rfl (by kernel_rfl) (by kernel_rfl) (by kernel_rfl) (fun _ _ _ _ h => h) (by rfl) ?_; simp only [Act.put, List.setIfInBounds_toArray, List.set_cons_zero, List.set_cons_succ]
      refine anyR_skipG Later.pre 14 rfl (by kernel_rfl) (by kernel_rfl) (by kernel_rfl) (fun _ _ _ _ h => h) (by rfl) ?_; simp only [Act.put, List.setIfInBounds_toArray, List.set_cons_zero, List.set_cons_succ]
      refine anyR_skipG Later.pre 15 rfl (by kernel_rfl) (by kernel_rfl) (by kernel_rfl) (fun _ _ _ _ h => h) (by rfl) ?_; simp only [Act.put, List.setIfInBounds_toArray, List.set_cons_zero, List.set_cons_succ]
      refine anyR_skipG Later.pre 16 rfl (by kernel_rfl) (by kernel_rfl) (by kernel_rfl) (fun _ _ _ _ h => h) (by rfl) ?_; simp only [Act.put, List.setIfInBounds_toArray, List.set_cons_zero, List.set_cons_succ]
      refine anyR_skipG Later.pre 17 rfl (by kernel_rfl) (by kernel_rfl) (by kernel_rfl) (fun _ _ _ _ h => h) (by rfl) ?_; simp only [Act.put, List.setIfInBounds_toArray, List.set_cons_zero, List.set_cons_succ]
      refine anyR_skipG Later.pre 18 rfl (by kernel_rfl) (by kernel_rfl) (by kernel_rfl) (fun _ _ _ _ h => h) (by rfl) ?_; simp only [Act.put, List.setIfInBounds_toArray, List.set_cons_zero, List.set_cons_succ]
      refine anyR_skipG Later.pre 19 rfl (by kernel_rfl) (by kernel_rfl) (by kernel_rfl) (fun _ _ _ _ h => h) (by rfl) ?_; simp only [Act.put, List.setIfInBounds_toArray, List.set_cons_zero, List.set_cons_succ]
      refine anyR_skipG Later.pre 20 rfl (by kernel_rfl) (by kernel_rfl) (by kernel_rfl) (fun _ _ _ _ h => h) (by rfl) ?_; simp only [Act.put, List.setIfInBounds_toArray, List.set_cons_zero, List.set_cons_succ]
      refine anyR_skipG Later.pre 21 rfl (by kernel_rfl) (by kernel_rfl) (by kernel_rfl) (fun _ _ _ _ h => h) (by rfl) ?_; simp only [Act.put, List.setIfInBounds_toArray, List.set_cons_zero, List.set_cons_succ]
      refine anyR_skipG Later.pre 22 rfl (by kernel_rfl) (by kernel_rfl) (by kernel_rfl) (fun _ _ _ _ h => h) (by rfl) ?_; simp only [Act.put, List.setIfInBounds_toArray, List.set_cons_zero, List.set_cons_succ]
      refine anyR_val Later.pre 23 rfl (by kernel_rfl) (by kernel_rfl) (by kernel_rfl) (fun _ _ _ _ h => h) rfl ?_; apply Exists.intro; refine ⟨fun v1 hv1 => ?_, ?_⟩; (· (go_simp; rfl)); simp only [Act.put, List.setIfInBounds_toArray, List.set_cons_zero, List.set_cons_succ]
      clear hac
      refine anyR_done (by kernel_rfl) (fun VD hVD => ?_)
      have LVb : Later wr VD := hWd.trans hVD
      have hc3 : r.at0 ≤ p := hp1
      have hc4 : (p : Int) ≤ (cp : Int) := by omega
      have hc5 : (r.at0 : Int) ≤ (p : Int) := by omega
      have hac2 : ∀ v1, Later VD v1 → ∀ j, v1.cell? ⟨rb, j, none⟩ = #[Value.slice (some ⟨bb, off, none⟩) zs.length cp, .int .i64 (p : Int), .int .i64 r.kd, .int .i64 r.st, .int .i64 r.en, .int .u32 r.ad, .int .u16 r.pt][j]? := fun v1 hv => block_cell (later_keep (LVb.trans hv) HBR.out)
      have kv := hac2 VD (Later.refl _)
      go_upto_region 4 with fail
      clear kv
      refine anyR_begin Later.pre Later.drew 12 rfl (by kernel_rfl) ?_
      intro We hWe
      have hac3 : ∀ v1, Later We v1 → ∀ j, v1.cell? ⟨rb, j, none⟩ = #[Value.slice (some ⟨bb, off, none⟩) zs.length cp, .int .i64 (p : Int), .int .i64 r.kd, .int .i64 r.st, .int .i64 r.en, .int .u32 r.ad, .int .u16 r.pt][j]? := fun v1 hv => hac2 v1 (hWe.trans hv)
      have hcv : ∀ v1, Later We v1 → (convert 26 9 (.slice (if cp = r.at0 then some ⟨bb, off, none⟩ else some ⟨bb, off + r.at0, none⟩) (p - r.at0) (cp - r.at0))).run Tryd.prog v1 = .ok (.string (strOfNums ((zs.drop r.at0).take (p - r.at0)))) v1 := fun v1 hv => conv_mid r.at0 p (HIR.out.below (Below.mono (LVb.trans (hWe.trans hv)) (by omega))) hp1 hp2
      clear hac2
      refine anyR_val Later.pre 0 rfl (by kernel_rfl) (by kernel_rfl) (by kernel_rfl) (fun _ _ _ _ h => h) rfl ?_; apply Exists.intro; refine ⟨fun v1 hv1 => ?_, ?_⟩; (· (go_simp; rfl)); simp only [Act.put, List.setIfInBounds_toArray, List.set_cons_zero, List.set_cons_succ]
      refine anyR_val Later.pre 1 rfl (by kernel_rfl) (by kernel_rfl) (by kernel_rfl) (fun _ _ _ _ h => h) rfl ?_; apply Exists.intro; refine ⟨fun v1 hv1 => ?_, ?_⟩; (· (go_simp; rfl)); simp only [Act.put, List.setIfInBounds_toArray, List.set_cons_zero, List.set_cons_succ]
      refine anyR_val Later.pre 2 rfl (by kernel_rfl) (by kernel_rfl) (by kernel_rfl) (fun _ _ _ _ h => h) rfl ?_; apply Exists.intro; refine ⟨fun v1 hv1 => ?_, ?_⟩; (· (go_simp; rfl)); simp only [Act.put, List.setIfInBounds_toArray, List.set_cons_zero, List.set_cons_succ]
      refine anyR_val Later.pre 3 rfl (by kernel_rfl) (by kernel_rfl) (by kernel_rfl) (fun _ _ _ _ h => h) rfl ?_; apply Exists.intro; refine ⟨fun v1 hv1 => ?_, ?_⟩; (· (go_simp; rfl)); simp only [Act.put, List.setIfInBounds_toArray, List.set_cons_zero, List.set_cons_succ]
      refine anyR_val Later.pre 4 rfl (by kernel_rfl) (by kernel_rfl) (by kernel_rfl) (fun _ _ _ _ h => h) rfl ?_; apply Exists.intro; refine ⟨fun v1 hv1 => ?_, ?_⟩; (· (go_simp; rfl)); simp only [Act.put, List.setIfInBounds_toArray, List.set_cons_zero, List.set_cons_succ]
      refine anyR_val Later.pre 5 rfl (by kernel_rfl) (by kernel_rfl) (by kernel_rfl) (fun _ _ _ _ h => h) rfl ?_; apply Exists.intro; refine ⟨fun v1 hv1 => ?_, ?_⟩; (· (go_simp; rfl)); simp only [Act.put, List.setIfInBounds_toArray, List.set_cons_zero, List.set_cons_succ]
      refine anyR_val Later.pre 6 rfl (by kernel_rfl) (by kernel_rfl) (by kernel_rfl) (fun _ _ _ _ h => h) rfl ?_; apply Exists.intro; refine ⟨fun v1 hv1 => ?_, ?_⟩; (· (go_simp; rfl)); simp only [Act.put, List.setIfInBounds_toArray, List.set_cons_zero, List.set_cons_succ]
      refine anyR_val Later.pre 7 rfl (by kernel_rfl) (by kernel_rfl) (by kernel_rfl) (fun _ _ _ _ h => h) rfl ?_; apply Exists.intro; refine ⟨fun v1 hv1 => ?_, ?_⟩; (· (go_simp; rfl)); simp only [Act.put, List.setIfInBounds_toArray, List.set_cons_zero, List.set_cons_succ]
      refine anyR_val Later.pre 8 rfl (by kernel_rfl) (by kernel_rfl) (by kernel_rfl) (fun _ _ _ _ h => h) rfl ?_; apply Exists.intro; refine ⟨fun v1 hv1 => ?_, ?_⟩; (· (go_simp; rfl)); simp only [Act.put, List.setIfInBounds_toArray, List.set_cons_zero, List.set_cons_succ]
      refine anyR_val Later.pre 9 rfl (by kernel_rfl) (by kernel_rfl) (by kernel_rfl) (fun _ _ _ _ h => h) rfl ?_; apply Exists.intro; refine ⟨fun v1 hv1 => ?_, ?_⟩; (· (go_simp; rfl)); simp only [Act.put, List.setIfInBounds_toArray, List.set_cons_zero, List.set_cons_succ]
      refine anyR_val Later.pre 10 rfl (by kernel_rfl) (by kernel_rfl) (by kernel_rfl) (fun _ _ _ _ h => h) rfl ?_; apply Exists.intro; refine ⟨fun v1 hv1 => ?_, ?_⟩; (· (go_simp; rfl)); simp only [Act.put, List.setIfInBounds_toArray, List.set_cons_zero, List.set_cons_succ]
      generalize (if cp = r.at0 then some (⟨bb, off, none⟩ : Addr) else some ⟨bb, off + r.at0, none⟩) = ifa at *
      clear hac3 hcv
      refine anyR_val Later.pre 11 rfl (by kernel_rfl) (by kernel_rfl) (by kernel_rfl) (fun _ _ _ _ h => h) rfl ?_; apply Exists.intro; refine ⟨fun v1 hv1 => ?_, ?_⟩; (· (go_simp; rfl)); simp only [Act.put, List.setIfInBounds_toArray, List.set_cons_zero, List.set_cons_succ]
      refine anyR_done (by kernel_rfl) (fun VF hVF => ?_)
      have LF : Later wr VF := LVb.trans (hWe.trans hVF)
      go_wp2_with fail
      refine bodyPost_ret (v := .string (strOfNums ((zs.drop r.at0).take (p - r.at0)))) (by simp [results, Tryd.results49, go_sem]) rfl ?_
      rw [HDZ2.out]
      exact ⟨rfl, HO.out.trans (But.of LF), RB.later HBR.out LF⟩
end Go.Proofs.YtfnlakpjepjhbaaDoor
