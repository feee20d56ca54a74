/- bytes.IndexByte; package ftp: past. -/
import Derived.Test.YtfnlakpjepjhbaaDoorFE
import Derived.Lib.BytesEntry
import Derived.Lib.Strings
namespace Go.Proofs.YtfnlakpjepjhbaaDoor
open Go.RowKit Go.Shelf
set_option maxRecDepth 100000
set_option linter.unusedVariables false
set_option linter.unusedSimpArgs false

set_option maxHeartbeats 1000000 in
theorem indexByte_any (b o n c : Nat) (xs : List Int) (cv : Int) (w : World) (hx : xs.length = n) (hc : ∀ i, i < n → w.cell? ⟨b, o + i, none⟩ = some (.int .u8 (xs.getD i 0))) :
    Calls Tryd.prog 36 #[.slice (some ⟨b, o, none⟩) n c, .int .u8 cv] w fun e w' => e = .returned (.int .i64 (Lib.indexByte (Lib.bytesOf xs) cv.toNat.toUInt8)) ∧ w' = w := by
  go_enter Tryd.func36, Tryd.ntmps36
  go_wp2
  rw [run_callFunc_extern Tryd.func52 (by kernel_rfl) (by kernel_rfl) (by kernel_rfl) (e := Extern.BytealgIndexByte.indexByte) (by kernel_rfl), Lib.run_indexByteSlice w b o n c xs hx hc cv]
  simp only [Result.andThen]
  rw [Oper.upon_value]
  go_wp2
  go_ret
  exact ⟨rfl, rfl⟩
theorem ixb_rng : ∀ (l : List UInt8) (c : UInt8), -1 ≤ Lib.indexByte l c ∧ Lib.indexByte l c < l.length ∨ (l = [] ∧ Lib.indexByte l c = -1)
  | [], c => .inr ⟨rfl, rfl⟩
  | b :: l, c => by
    left
    unfold Lib.indexByte
    have h := ixb_rng l c
    split
    · first | (simp; done) | (simp; omega)
    · split
      · first | (simp; done) | (simp; omega)
      · rename_i h1
        rcases h with h | ⟨_, h⟩
        · have : Lib.indexByte l c ≠ -1 := by simpa using h1
          rw [List.length_cons]
          omega
        · exact absurd h (by simpa using h1)
/-- How far the first such byte is from a place; -1: there is none. -/
def pst (zs : List Int) (p : Nat) (c : Int) : Int := Lib.indexByte (Lib.bytesOf (zs.drop p)) c.toNat.toUInt8
theorem pst_rng {zs : List Int} {p : Nat} (c : Int) (h : p ≤ zs.length) : -1 ≤ pst zs p c ∧ pst zs p c + (p : Int) + 1 ≤ (zs.length : Int) := by
  unfold pst
  have hl : (Lib.bytesOf (zs.drop p)).length = zs.length - p := by unfold Lib.bytesOf; simp
  rcases ixb_rng (Lib.bytesOf (zs.drop p)) c.toNat.toUInt8 with ⟨h1, h2⟩ | ⟨h1, h2⟩
  · rw [hl] at h2; omega
  · rw [h2]; omega

set_option maxHeartbeats 8000000 in
theorem past_any (rb : Nat) (bb off cp n₀ : Nat) (zs : List Int) (c : Int) (r : Rr) (w : World) (h : RB w rb (.slice (some ⟨bb, off, none⟩) zs.length cp) r) (hI : Rd n₀ w (.slice (some ⟨bb, off, none⟩) zs.length cp) zs) (hl : zs.length ≤ 1000) (hcp : zs.length < cp) (ha : r.at0 ≤ zs.length) (hn0 : n₀ ≤ w.heap.size) (hrb : n₀ ≤ rb) :
    Calls Tryd.prog 18 #[.pointer (some ⟨rb, 0, none⟩), .int .u8 c] w fun e w' => e = .returned (.bool (decide (0 ≤ pst zs r.at0 c))) ∧ OnlyB rb w w' ∧ RB w' rb (.slice (some ⟨bb, off, none⟩) zs.length cp) (atR r ((r.at0 : Int) + (pst zs r.at0 c + 1)).toNat) := by
  have HB := hide h
  have HI := hide hI
  have hpr := pst_rng c ha
  have HIX : Hid (∀ W, Later w W → Calls Tryd.prog 36 #[.slice (some ⟨bb, off + r.at0, none⟩) (zs.length - r.at0) (cp - r.at0), .int .u8 c] W fun e w' => e = .returned (.int .i64 (pst zs r.at0 c)) ∧ w' = W) := fun W lW => by
    refine indexByte_any bb (off + r.at0) (zs.length - r.at0) (cp - r.at0) (zs.drop r.at0) c W (by simp) (fun i hi => ?_)
    rcases hI.below (Below.mono lW hn0) with ⟨a, cc, e, hz, _⟩ | ⟨b', o', c', e, _, _, _, _, hc⟩
    · rw [hz] at hi; simp at hi
    · simp at e
      obtain ⟨⟨rfl, rfl⟩, rfl⟩ := e
      rw [Nat.add_assoc, hc (r.at0 + i) (by omega)]
      simp [List.getD_eq_getElem?_getD]
  generalize pst zs r.at0 c = q at *
  have g1 : (zs.length : Int) ≤ 1000 := by omega
  have g2 : (r.at0 : Int) ≤ (zs.length : Int) := by omega
  have g3 : ¬ cp = r.at0 := by omega
  have g4 : (zs.length : Int) ≤ (cp : Int) := by omega
  obtain ⟨hp1, hp2⟩ := hpr
  have k0 := block_cell h
  unfold rrc at k0
  clear h hI
  go_enter Tryd.func18, Tryd.ntmps18
  go_upto_region 1 with fail
  clear k0
  refine anyR_begin Later.pre Later.drew 12 rfl (by kernel_rfl) ?_
  intro Wd hWd
  have hac : ∀ v1, Later Wd v1 → ∀ j, v1.cell? ⟨rb, j, none⟩ = #[Value.slice (some ⟨bb, off, none⟩) zs.length cp, .int .i64 (r.at0 : Int), .int .i64 r.kd, .int .i64 r.st, .int .i64 r.en, .int .u32 r.ad, .int .u16 r.pt][j]? := fun v1 hv => block_cell (later_keep (hWd.trans hv) HB.out)
  refine anyR_val Later.pre 0 rfl (by kernel_rfl) (by kernel_rfl) (by kernel_rfl) (fun _ _ _ _ h => h) rfl ?_; apply Exists.intro; refine ⟨fun v1 hv1 => ?_, ?_⟩; (· (go_simp; rfl)); simp only [Act.put, List.setIfInBounds_toArray, List.set_cons_zero, List.set_cons_succ]
  refine anyR_val Later.pre 1 rfl (by kernel_rfl) (by kernel_rfl) (by kernel_rfl) (fun _ _ _ _ h => h) rfl ?_; apply Exists.intro; refine ⟨fun v1 hv1 => ?_, ?_⟩; (· (go_simp; rfl)); simp only [Act.put, List.setIfInBounds_toArray, List.set_cons_zero, List.set_cons_succ]
  refine anyR_val Later.pre 2 rfl (by kernel_rfl) (by kernel_rfl) (by kernel_rfl) (fun _ _ _ _ h => h) rfl ?_; apply Exists.intro; refine ⟨fun v1 hv1 => ?_, ?_⟩; (· (go_simp; rfl)); simp only [Act.put, List.setIfInBounds_toArray, List.set_cons_zero, List.set_cons_succ]
  refine anyR_val Later.pre 3 rfl (by kernel_rfl) (by kernel_rfl) (by kernel_rfl) (fun _ _ _ _ h => h) rfl ?_; apply Exists.intro; refine ⟨fun v1 hv1 => ?_, ?_⟩; (· (go_simp; rfl)); simp only [Act.put, List.setIfInBounds_toArray, List.set_cons_zero, List.set_cons_succ]
  refine anyR_val Later.pre 4 rfl (by kernel_rfl) (by kernel_rfl) (by kernel_rfl) (fun _ _ _ _ h => h) rfl ?_; apply Exists.intro; refine ⟨fun v1 hv1 => ?_, ?_⟩; (· (go_simp; rfl)); simp only [Act.put, List.setIfInBounds_toArray, List.set_cons_zero, List.set_cons_succ]
  refine anyR_val Later.pre 5 rfl (by kernel_rfl) (by kernel_rfl) (by kernel_rfl) (fun _ _ _ _ h => h) rfl ?_; apply Exists.intro; refine ⟨fun v1 hv1 => ?_, ?_⟩; (· (go_simp; rfl)); simp only [Act.put, List.setIfInBounds_toArray, List.set_cons_zero, List.set_cons_succ]
  refine anyR_val Later.pre 6 rfl (by kernel_rfl) (by kernel_rfl) (by kernel_rfl) (fun _ _ _ _ h => h) rfl ?_; apply Exists.intro; refine ⟨fun v1 hv1 => ?_, ?_⟩; (· (go_simp; rfl)); simp only [Act.put, List.setIfInBounds_toArray, List.set_cons_zero, List.set_cons_succ]
  refine anyR_val Later.pre 7 rfl (by kernel_rfl) (by kernel_rfl) (by kernel_rfl) (fun _ _ _ _ h => h) rfl ?_; apply Exists.intro; refine ⟨fun v1 hv1 => ?_, ?_⟩; (· (go_simp; rfl)); simp only [Act.put, List.setIfInBounds_toArray, List.set_cons_zero, List.set_cons_succ]
  refine anyR_val Later.pre 8 rfl (by kernel_rfl) (by kernel_rfl) (by kernel_rfl) (fun _ _ _ _ h => h) rfl ?_; apply Exists.intro; refine ⟨fun v1 hv1 => ?_, ?_⟩; (· (go_simp; rfl)); simp only [Act.put, List.setIfInBounds_toArray, List.set_cons_zero, List.set_cons_succ]
  refine anyR_val Later.pre 9 rfl (by kernel_rfl) (by kernel_rfl) (by kernel_rfl) (fun _ _ _ _ h => h) rfl ?_; apply Exists.intro; refine ⟨fun v1 hv1 => ?_, ?_⟩; (· (go_simp; rfl)); simp only [Act.put, List.setIfInBounds_toArray, List.set_cons_zero, List.set_cons_succ]
  refine anyR_take Later.pre 10 (.int .i64 q) rfl (by kernel_rfl) (by kernel_rfl) (by kernel_rfl) (fun _ _ _ h => h) rfl (fun w1 hw1 => goes_call 36 #[.slice (some ⟨bb, off + r.at0, none⟩) (zs.length - r.at0) (cp - r.at0), .int .u8 c] (by go_simp) ((HIX.out w1 (hWd.trans hw1)).mono fun e w2 h => ⟨h.1, by rw [h.2]; exact Later.refl _⟩)) ?_
  simp only [Act.put, List.setIfInBounds_toArray, List.set_cons_zero, List.set_cons_succ]
  refine anyR_val Later.pre 11 rfl (by kernel_rfl) (by kernel_rfl) (by kernel_rfl) (fun _ _ _ _ h => h) rfl ?_; apply Exists.intro; refine ⟨fun v1 hv1 => ?_, ?_⟩; (· (go_simp; rfl)); simp only [Act.put, List.setIfInBounds_toArray, List.set_cons_zero, List.set_cons_succ]
  clear hac
  refine anyR_done (by kernel_rfl) (fun VD hVD => ?_)
  have LV : Later w VD := hWd.trans hVD
  have hBV := RB.later HB.out LV
  have kv := block_cell hBV
  have fv := block_frozen hBV
  unfold rrc at kv
  have e1 : (((r.at0 : Int) + (q + 1)).toNat : Int) = (r.at0 : Int) + (q + 1) := by omega
  have hst := heap_set1 hBV 1 (.int .i64 ((r.at0 : Int) + (q + 1)))
  have HST : Hid (RB (VD.setCell ⟨rb, 1, none⟩ (.int .i64 ((r.at0 : Int) + (q + 1)))) rb (.slice (some ⟨bb, off, none⟩) zs.length cp) (atR r ((r.at0 : Int) + (q + 1)).toNat)) := by
    show _ = _
    rw [hst]
    unfold rrc atR
    simp only [e1]
    rfl
  clear hst e1
  go_wp2_with fail
  go_ret
  exact ⟨by first | rfl | simp, (But.of LV).trans ((But.refl (fun g => g = rb) _).setCell (p := ⟨rb, 1, none⟩) rfl _), HST.out⟩
end Go.Proofs.YtfnlakpjepjhbaaDoor
