/- Package ftp: the reader in memory; over, take. -/
import Derived.Test.YtfnlakpjepjhbaaDoorFC
import Derived.Test.YtfnlakpjepjhbaaDoorRs
import Derived.Test.YtfnlakpjepjhbaaDoorRt
import Derived.Test.YtfnlakpjepjhbaaDoorCA
import Derived.Test.YtfnlakpjepjhbaaDoorRx
namespace Go.Proofs.YtfnlakpjepjhbaaDoor
open Go.RowKit Go.Shelf
set_option maxRecDepth 100000
set_option linter.unusedVariables false
set_option linter.unusedSimpArgs false

/-- What a reader has: its bytes, how many are taken, what was named. -/
structure Rr where
  at0 : Nat
  kd : Int
  st : Int
  en : Int
  ad : Int
  pt : Int
def rrc (bv : Value) (r : Rr) : Array Value := #[bv, .int .i64 (r.at0 : Int), .int .i64 r.kd, .int .i64 r.st, .int .i64 r.en, .int .u32 r.ad, .int .u16 r.pt]
/-- A reader in memory. -/
def RB (W : World) (rb : Nat) (bv : Value) (r : Rr) : Prop := W.heap[rb]? = some (.cells (rrc bv r) 49 (0, 0))
theorem RB.later {A B : World} {rb : Nat} {bv : Value} {r : Rr} (h : RB A rb bv r) (k : Later A B) : RB B rb bv r := later_keep k h
/-- Only the reader may have turned. -/
def OnlyB (rb : Nat) (w w' : World) : Prop := But (fun g => g = rb) w w'

set_option maxHeartbeats 2000000 in
theorem over_any (rb : Nat) (ba : Option Addr) (n cp : Nat) (r : Rr) (w : World) (h : RB w rb (.slice ba n cp) r) :
    Calls Tryd.prog 16 #[.pointer (some ⟨rb, 0, none⟩)] w fun e w' => e = .returned (.bool (decide (r.at0 = n))) ∧ Later w w' := by
  have HB := hide h
  have k0 := block_cell h
  unfold rrc at k0
  have lz : ∀ n, Later w (w.drewN n) := fun n => below_draw (Later.refl _) _
  by_cases hq : r.at0 = n
  case' pos =>
    have hq1 : ((r.at0 : Int) == (n : Int)) = true := by simp [hq]
    have HV : Hid (decide (r.at0 = n) = true) := decide_eq_true hq
  case' neg =>
    have hq1 : ((r.at0 : Int) == (n : Int)) = false := by rw [beq_eq_false_iff_ne]; omega
    have HV : Hid (decide (r.at0 = n) = false) := decide_eq_false hq
  all_goals
    clear hq h
    rw [HV.out]
    go_enter Tryd.func16, Tryd.ntmps16
    go_upto_region 1 with fail
    go_quiet (fail)
    go_wp2_with fail
    go_ret
    exact ⟨by first | rfl | simp, lz _⟩

/-- Does the text stand there? -/
def tkB (zs : List Int) (p : Nat) (t : ByteArray) : Bool := decide (p + t.size ≤ zs.length) && swV (strOfNums ((zs.drop p).take t.size)) t
/-- A reader that has taken so many. -/
def atR (r : Rr) (p : Nat) : Rr := ⟨p, r.kd, r.st, r.en, r.ad, r.pt⟩
theorem Rd.mid {n₀ : Nat} {A : World} {b off len cap : Nat} {zs : List Int} (p m : Nat) (h : Rd n₀ A (.slice (some ⟨b, off, none⟩) len cap) zs) (hp : p + m ≤ zs.length) (hm : 0 < m) : Rd n₀ A (.slice (some ⟨b, off + p, none⟩) m (cap - p)) ((zs.drop p).take m) := by
  rcases h with ⟨a, c, e, hz, _⟩ | ⟨b', o', c', e, hne, hl, hmx, hb, hc⟩
  · rw [hz] at hp; simp at hp; omega
  · simp at e
    obtain ⟨⟨rfl, rfl⟩, rfl, rfl⟩ := e
    have hlen : ((zs.drop p).take m).length = m := by simp; omega
    refine .inr ⟨b, off + p, cap - p, by rw [hlen], fun e => by rw [e] at hlen; simp at hlen; omega, by omega, by omega, hb, fun j hj => ?_⟩
    have hj' : j < m := by omega
    rw [Nat.add_assoc, hc (p + j) (by omega), List.getElem?_take, if_pos hj', List.getElem?_drop]

set_option maxHeartbeats 8000000 in
theorem take_any (rb : Nat) (bb off cp n₀ : Nat) (zs : List Int) (t : ByteArray) (r : Rr) (w : World) (h : RB w rb (.slice (some ⟨bb, off, none⟩) zs.length cp) r) (hI : Rd n₀ w (.slice (some ⟨bb, off, none⟩) zs.length cp) zs) (hl : zs.length ≤ 1000) (ht : 0 < t.size ∧ t.size ≤ 1000) (ha : r.at0 ≤ zs.length) (hn0 : n₀ ≤ w.heap.size) :
    Calls Tryd.prog 19 #[.pointer (some ⟨rb, 0, none⟩), .string t] w fun e w' => e = .returned (.bool (tkB zs r.at0 t)) ∧ OnlyB rb w w' ∧ RB w' rb (.slice (some ⟨bb, off, none⟩) zs.length cp) (if tkB zs r.at0 t = true then atR r (r.at0 + t.size) else r) := by
  have HB := hide h
  have k0 := block_cell h
  unfold rrc at k0
  have g1 : (zs.length : Int) ≤ 1000 := by omega
  have g2 : (t.size : Int) ≤ 1000 := by omega
  have g3 : (r.at0 : Int) ≤ 1000 := by omega
  obtain ⟨ht1, ht2⟩ := ht
  have hcp : zs.length ≤ cp := by obtain ⟨_, _, e, h1, _⟩ := hI.slice; simp at e; omega
  by_cases hfit : r.at0 + t.size ≤ zs.length
  · have hf1 : ¬ (zs.length : Int) < (r.at0 : Int) + (t.size : Int) := by omega
    have hRm := Rd.mid r.at0 t.size hI hfit ht1
    have HTK : Hid (tkB zs r.at0 t = swV (strOfNums ((zs.drop r.at0).take t.size)) t) := by show _ = _; unfold tkB; simp [hfit]
    have HSW := hide (fun W => sameWord_any (strOfNums ((zs.drop r.at0).take t.size)) t W (by rw [strOfNums_size]; simp; omega))
    obtain ⟨pe, hpe⟩ : ∃ pe, pe = r.at0 + t.size := ⟨_, rfl⟩
    have epe : (r.at0 : Int) + (t.size : Int) = (pe : Int) := by omega
    have ept : pe - r.at0 = t.size := by omega
    rw [← ept] at hRm
    have c1 : (pe : Int) ≤ (cp : Int) := by omega
    have c2 : ¬ cp = r.at0 := by omega
    have c3 : r.at0 ≤ pe := by omega
    have c4 : ¬ (zs.length : Int) < (pe : Int) := by omega
    have c5 : (pe : Int) ≤ 2000 := by omega
    have HPE := hide hpe
    have HEP := hide epe
    have HRM := hide hRm
    rw [hpe.symm]
    have HET := hide ept
    clear h hI hfit hRm hf1 hpe epe ept
    generalize hss : strOfNums ((zs.drop r.at0).take t.size) = ss at *
    have HSS := hide hss
    clear hss
    have HZ : Hid (∃ z, swV ss t = z ∧ tkB zs r.at0 t = z) := ⟨_, rfl, HTK.out⟩
    obtain ⟨z, hz1, hz2⟩ := HZ.out
    rw [hz1] at HSW
    rw [hz2]
    clear hz1 hz2 HZ HTK
    go_enter Tryd.func19, Tryd.ntmps19
    go_upto_region 2 with fail
    rw [HEP.out]
    clear k0
    refine anyR_begin Later.pre Later.drew 23 rfl (by kernel_rfl) ?_
    intro Wd hWd
    have hac : ∀ v1, Later Wd v1 → ∀ j, v1.cell? ⟨rb, j, none⟩ = #[Value.slice (some ⟨bb, off, none⟩) zs.length cp, .int .i64 (r.at0 : Int), .int .i64 r.kd, .int .i64 r.st, .int .i64 r.en, .int .u32 r.ad, .int .u16 r.pt][j]? := fun v1 hv => block_cell (later_keep (hWd.trans hv) HB.out)
    refine anyR_val Later.pre 0 rfl (by kernel_rfl) (by kernel_rfl) (by kernel_rfl) (fun _ _ _ _ h => h) rfl ?_; apply Exists.intro; refine ⟨fun v1 hv1 => ?_, ?_⟩; (· (go_simp; rfl)); simp only [Act.put, List.setIfInBounds_toArray, List.set_cons_zero, List.set_cons_succ]
    refine anyR_val Later.pre 1 rfl (by kernel_rfl) (by kernel_rfl) (by kernel_rfl) (fun _ _ _ _ h => h) rfl ?_; apply Exists.intro; refine ⟨fun v1 hv1 => ?_, ?_⟩; (· (go_simp; rfl)); simp only [Act.put, List.setIfInBounds_toArray, List.set_cons_zero, List.set_cons_succ]
    refine anyR_val Later.pre 2 rfl (by kernel_rfl) (by kernel_rfl) (by kernel_rfl) (fun _ _ _ _ h => h) rfl ?_; apply Exists.intro; refine ⟨fun v1 hv1 => ?_, ?_⟩; (· (go_simp; rfl)); simp only [Act.put, List.setIfInBounds_toArray, List.set_cons_zero, List.set_cons_succ]
    refine anyR_val Later.pre 3 rfl (by kernel_rfl) (by kernel_rfl) (by kernel_rfl) (fun _ _ _ _ h => h) rfl ?_; apply Exists.intro; refine ⟨fun v1 hv1 => ?_, ?_⟩; (· (go_simp; rfl)); simp only [Act.put, List.setIfInBounds_toArray, List.set_cons_zero, List.set_cons_succ]
    refine anyR_val Later.pre 4 rfl (by kernel_rfl) (by kernel_rfl) (by kernel_rfl) (fun _ _ _ _ h => h) rfl ?_; apply Exists.intro; refine ⟨fun v1 hv1 => ?_, ?_⟩; (· (go_simp; rfl)); simp only [Act.put, List.setIfInBounds_toArray, List.set_cons_zero, List.set_cons_succ]
    refine anyR_val Later.pre 5 rfl (by kernel_rfl) (by kernel_rfl) (by kernel_rfl) (fun _ _ _ _ h => h) rfl ?_; apply Exists.intro; refine ⟨fun v1 hv1 => ?_, ?_⟩; (· (go_simp; rfl)); simp only [Act.put, List.setIfInBounds_toArray, List.set_cons_zero, List.set_cons_succ]
    refine anyR_val Later.pre 6 rfl (by kernel_rfl) (by kernel_rfl) (by kernel_rfl) (fun _ _ _ _ h => h) rfl ?_; apply Exists.intro; refine ⟨fun v1 hv1 => ?_, ?_⟩; (· (go_simp; rfl)); simp only [Act.put, List.setIfInBounds_toArray, List.set_cons_zero, List.set_cons_succ]
    refine anyR_val Later.pre 7 rfl (by kernel_rfl) (by kernel_rfl) (by kernel_rfl) (fun _ _ _ _ h => h) rfl ?_; apply Exists.intro; refine ⟨fun v1 hv1 => ?_, ?_⟩; (· (go_simp; rfl)); simp only [Act.put, List.setIfInBounds_toArray, List.set_cons_zero, List.set_cons_succ]
    refine anyR_valG Later.pre 8 rfl (by kernel_rfl) (by kernel_rfl) (by kernel_rfl) (fun _ _ _ _ h => h) (by rfl) ?_; apply Exists.intro; refine ⟨fun v1 hv1 => ?_, ?_⟩; (· (go_simp; rfl)); simp only [Act.put, List.setIfInBounds_toArray, List.set_cons_zero, List.set_cons_succ]
    refine anyR_valG Later.pre 9 rfl (by kernel_rfl) (by kernel_rfl) (by kernel_rfl) (fun _ _ _ _ h => h) (by rfl) ?_; apply Exists.intro; refine ⟨fun v1 hv1 => ?_, ?_⟩; (· (go_simp; rfl)); simp only [Act.put, List.setIfInBounds_toArray, List.set_cons_zero, List.set_cons_succ]
    refine anyR_valG Later.pre 10 rfl (by kernel_rfl) (by kernel_rfl) (by kernel_rfl) (fun _ _ _ _ h => h) (by rfl) ?_; apply Exists.intro; refine ⟨fun v1 hv1 => ?_, ?_⟩; (· (go_simp; rfl)); simp only [Act.put, List.setIfInBounds_toArray, List.set_cons_zero, List.set_cons_succ]
    refine anyR_valG Later.pre 11 rfl (by kernel_rfl) (by kernel_rfl) (by kernel_rfl) (fun _ _ _ _ h => h) (by rfl) ?_; apply Exists.intro; refine ⟨fun v1 hv1 => ?_, ?_⟩; (· (go_simp; rfl)); simp only [Act.put, List.setIfInBounds_toArray, List.set_cons_zero, List.set_cons_succ]
    refine anyR_valG Later.pre 12 rfl (by kernel_rfl) (by kernel_rfl) (by kernel_rfl) (fun _ _ _ _ h => h) (by rfl) ?_; apply Exists.intro; refine ⟨fun v1 hv1 => ?_, ?_⟩; (· (go_simp; rfl)); simp only [Act.put, List.setIfInBounds_toArray, List.set_cons_zero, List.set_cons_succ]
    refine anyR_valG Later.pre 13 rfl (by kernel_rfl) (by kernel_rfl) (by kernel_rfl) (fun _ _ _ _ h => h) (by rfl) ?_; apply Exists.intro; refine ⟨fun v1 hv1 => ?_, ?_⟩; (· (go_simp; rfl)); simp only [Act.put, List.setIfInBounds_toArray, List.set_cons_zero, List.set_cons_succ]
    refine anyR_valG Later.pre 14 rfl (by kernel_rfl) (by kernel_rfl) (by kernel_rfl) (fun _ _ _ _ h => h) (by rfl) ?_; apply Exists.intro; refine ⟨fun v1 hv1 => ?_, ?_⟩; (· (go_simp; rfl)); simp only [Act.put, List.setIfInBounds_toArray, List.set_cons_zero, List.set_cons_succ]
    refine anyR_valG Later.pre 15 rfl (by kernel_rfl) (by kernel_rfl) (by kernel_rfl) (fun _ _ _ _ h => h) (by rfl) ?_; apply Exists.intro; refine ⟨fun v1 hv1 => ?_, ?_⟩; (· (go_simp; rfl)); simp only [Act.put, List.setIfInBounds_toArray, List.set_cons_zero, List.set_cons_succ]
    refine anyR_valG Later.pre 16 rfl (by kernel_rfl) (by kernel_rfl) (by kernel_rfl) (fun _ _ _ _ h => h) (by rfl) ?_; apply Exists.intro; refine ⟨fun v1 hv1 => ?_, ?_⟩; (· (go_simp; rfl)); simp only [Act.put, List.setIfInBounds_toArray, List.set_cons_zero, List.set_cons_succ]
    refine anyR_valG Later.pre 17 rfl (by kernel_rfl) (by kernel_rfl) (by kernel_rfl) (fun _ _ _ _ h => h) (by rfl) ?_; apply Exists.intro; refine ⟨fun v1 hv1 => ?_, ?_⟩; (· (go_simp; rfl)); simp only [Act.put, List.setIfInBounds_toArray, List.set_cons_zero, List.set_cons_succ]
    have hcv : ∀ v1, Later Wd v1 → (convert 26 9 (.slice (some ⟨bb, off + r.at0, none⟩) (pe - r.at0) (cp - r.at0))).run Tryd.prog v1 = .ok (.string ss) v1 := fun v1 hv => by
      have := conv_rd (P := Tryd.prog) (n₀ := n₀) (w := v1) 26 9 5 Tryd.underlying26 Tryd.underlying5 Tryd.underlying9 (HRM.out.below (Below.mono (hWd.trans hv) hn0))
      rw [HET.out, HSS.out] at this
      rw [HET.out]
      exact this
    refine anyR_valG Later.pre 18 rfl (by kernel_rfl) (by kernel_rfl) (by kernel_rfl) (fun _ _ _ _ h => h) (by rfl) ?_; apply Exists.intro; refine ⟨fun v1 hv1 => ?_, ?_⟩; (· (go_simp; rfl)); simp only [Act.put, List.setIfInBounds_toArray, List.set_cons_zero, List.set_cons_succ]
    refine anyR_valG Later.pre 19 rfl (by kernel_rfl) (by kernel_rfl) (by kernel_rfl) (fun _ _ _ _ h => h) (by rfl) ?_; apply Exists.intro; refine ⟨fun v1 hv1 => ?_, ?_⟩; (· (go_simp; rfl)); simp only [Act.put, List.setIfInBounds_toArray, List.set_cons_zero, List.set_cons_succ]
    refine anyR_takeG Later.pre 20 (.bool z) rfl (by kernel_rfl) (by kernel_rfl) (by kernel_rfl) (fun _ _ _ h => h) (by rfl) (fun w1 hw1 => goes_call 37 #[.string ss, .string t] (by go_simp) (HSW.out w1)) ?_
    simp only [Act.put, List.setIfInBounds_toArray, List.set_cons_zero, List.set_cons_succ]
    clear hcv
    refine anyR_valG Later.pre 21 rfl (by kernel_rfl) (by kernel_rfl) (by kernel_rfl) (fun _ _ _ _ h => h) (by rfl) ?_; apply Exists.intro; refine ⟨fun v1 hv1 => ?_, ?_⟩; (· (go_simp; rfl)); simp only [Act.put, List.setIfInBounds_toArray, List.set_cons_zero, List.set_cons_succ]
    refine anyR_val Later.pre 22 rfl (by kernel_rfl) (by kernel_rfl) (by kernel_rfl) (fun _ _ _ _ h => h) rfl ?_; apply Exists.intro; refine ⟨fun v1 hv1 => ?_, ?_⟩; (· (go_simp; rfl)); simp only [Act.put, List.setIfInBounds_toArray, List.set_cons_zero, List.set_cons_succ]
    clear hac
    refine anyR_done (by kernel_rfl) (fun VD hVD => ?_)
    have LV : Later w VD := hWd.trans hVD
    have hBV := RB.later HB.out LV
    cases z with
    | false =>
      go_wp2_with fail
      go_ret
      exact ⟨rfl, But.of LV, hBV⟩
    | true =>
      have kv := block_cell hBV
      have fv := block_frozen hBV
      unfold rrc at kv
      have hst := heap_set1 hBV 1 (.int .i64 (pe : Int))
      have HST := hide hst
      clear hst
      go_wp2_with fail
      go_ret
      exact ⟨rfl, (But.of LV).trans ((But.refl (fun g => g = rb) _).setCell (p := ⟨rb, 1, none⟩) rfl _), HST.out⟩
  · have hf1 : (zs.length : Int) < (r.at0 : Int) + (t.size : Int) := by omega
    have HTK : Hid (tkB zs r.at0 t = false) := by show _ = _; unfold tkB; simp [hfit]
    rw [HTK.out]
    clear h hI hfit
    go_enter Tryd.func19, Tryd.ntmps19
    go_upto_region 2 with fail
    clear k0
    refine anyR_begin Later.pre Later.drew 23 rfl (by kernel_rfl) ?_
    intro Wd hWd
    have hac : ∀ v1, Later Wd v1 → ∀ j, v1.cell? ⟨rb, j, none⟩ = #[Value.slice (some ⟨bb, off, none⟩) zs.length cp, .int .i64 (r.at0 : Int), .int .i64 r.kd, .int .i64 r.st, .int .i64 r.en, .int .u32 r.ad, .int .u16 r.pt][j]? := fun v1 hv => block_cell (later_keep (hWd.trans hv) HB.out)
    refine anyR_val Later.pre 0 rfl (by kernel_rfl) (by kernel_rfl) (by kernel_rfl) (fun _ _ _ _ h => h) rfl ?_; apply Exists.intro; refine ⟨fun v1 hv1 => ?_, ?_⟩; (· (go_simp; rfl)); simp only [Act.put, List.setIfInBounds_toArray, List.set_cons_zero, List.set_cons_succ]
    refine anyR_val Later.pre 1 rfl (by kernel_rfl) (by kernel_rfl) (by kernel_rfl) (fun _ _ _ _ h => h) rfl ?_; apply Exists.intro; refine ⟨fun v1 hv1 => ?_, ?_⟩; (· (go_simp; rfl)); simp only [Act.put, List.setIfInBounds_toArray, List.set_cons_zero, List.set_cons_succ]
    refine anyR_val Later.pre 2 rfl (by kernel_rfl) (by kernel_rfl) (by kernel_rfl) (fun _ _ _ _ h => h) rfl ?_; apply Exists.intro; refine ⟨fun v1 hv1 => ?_, ?_⟩; (· (go_simp; rfl)); simp only [Act.put, List.setIfInBounds_toArray, List.set_cons_zero, List.set_cons_succ]
    refine anyR_val Later.pre 3 rfl (by kernel_rfl) (by kernel_rfl) (by kernel_rfl) (fun _ _ _ _ h => h) rfl ?_; apply Exists.intro; refine ⟨fun v1 hv1 => ?_, ?_⟩; (· (go_simp; rfl)); simp only [Act.put, List.setIfInBounds_toArray, List.set_cons_zero, List.set_cons_succ]
    refine anyR_val Later.pre 4 rfl (by kernel_rfl) (by kernel_rfl) (by kernel_rfl) (fun _ _ _ _ h => h) rfl ?_; apply Exists.intro; refine ⟨fun v1 hv1 => ?_, ?_⟩; (· (go_simp; rfl)); simp only [Act.put, List.setIfInBounds_toArray, List.set_cons_zero, List.set_cons_succ]
    refine anyR_val Later.pre 5 rfl (by kernel_rfl) (by kernel_rfl) (by kernel_rfl) (fun _ _ _ _ h => h) rfl ?_; apply Exists.intro; refine ⟨fun v1 hv1 => ?_, ?_⟩; (· (go_simp; rfl)); simp only [Act.put, List.setIfInBounds_toArray, List.set_cons_zero, List.set_cons_succ]
    refine anyR_val Later.pre 6 rfl (by kernel_rfl) (by kernel_rfl) (by kernel_rfl) (fun _ _ _ _ h => h) rfl ?_; apply Exists.intro; refine ⟨fun v1 hv1 => ?_, ?_⟩; (· (go_simp; rfl)); simp only [Act.put, List.setIfInBounds_toArray, List.set_cons_zero, List.set_cons_succ]
    refine anyR_val Later.pre 7 rfl (by kernel_rfl) (by kernel_rfl) (by kernel_rfl) (fun _ _ _ _ h => h) rfl ?_; apply Exists.intro; refine ⟨fun v1 hv1 => ?_, ?_⟩; (· (go_simp; rfl)); simp only [Act.put, List.setIfInBounds_toArray, List.set_cons_zero, List.set_cons_succ]
    refine anyR_skipG Later.pre 8 rfl (by kernel_rfl) (by kernel_rfl) (by kernel_rfl) (fun _ _ _ _ h => h) (by rfl) ?_; simp only [Act.put, List.setIfInBounds_toArray, List.set_cons_zero, List.set_cons_succ]
    refine anyR_skipG Later.pre 9 rfl (by kernel_rfl) (by kernel_rfl) (by kernel_rfl) (fun _ _ _ _ h => h) (by rfl) ?_; simp only [Act.put, List.setIfInBounds_toArray, List.set_cons_zero, List.set_cons_succ]
    refine anyR_skipG Later.pre 10 rfl (by kernel_rfl) (by kernel_rfl) (by kernel_rfl) (fun _ _ _ _ h => h) (by rfl) ?_; simp only [Act.put, List.setIfInBounds_toArray, List.set_cons_zero, List.set_cons_succ]
    refine anyR_skipG Later.pre 11 rfl (by kernel_rfl) (by kernel_rfl) (by kernel_rfl) (fun _ _ _ _ h => h) (by rfl) ?_; simp only [Act.put, List.setIfInBounds_toArray, List.set_cons_zero, List.set_cons_succ]
    refine anyR_skipG Later.pre 12 rfl (by kernel_rfl) (by kernel_rfl) (by kernel_rfl) (fun _ _ _ _ h => h) (by rfl) ?_; simp only [Act.put, List.setIfInBounds_toArray, List.set_cons_zero, List.set_cons_succ]
    refine anyR_skipG Later.pre 13 rfl (by kernel_rfl) (by kernel_rfl) (by kernel_rfl) (fun _ _ _ _ h => h) (by rfl) ?_; simp only [Act.put, List.setIfInBounds_toArray, List.set_cons_zero, List.set_cons_succ]
    refine anyR_skipG Later.pre 14 rfl (by kernel_rfl) (by kernel_rfl) (by kernel_rfl) (fun _ _ _ _ h => h) (by rfl) ?_; simp only [Act.put, List.setIfInBounds_toArray, List.set_cons_zero, List.set_cons_succ]
    refine anyR_skipG Later.pre 15 rfl (by kernel_rfl) (by kernel_rfl) (by kernel_rfl) (fun _ _ _ _ h => h) (by rfl) ?_; simp only [Act.put, List.setIfInBounds_toArray, List.set_cons_zero, List.set_cons_succ]
    refine anyR_skipG Later.pre 16 rfl (by kernel_rfl) (by kernel_rfl) (by kernel_rfl) (fun _ _ _ _ h => h) (by rfl) ?_; simp only [Act.put, List.setIfInBounds_toArray, List.set_cons_zero, List.set_cons_succ]
    refine anyR_skipG Later.pre 17 rfl (by kernel_rfl) (by kernel_rfl) (by kernel_rfl) (fun _ _ _ _ h => h) (by rfl) ?_; simp only [Act.put, List.setIfInBounds_toArray, List.set_cons_zero, List.set_cons_succ]
    refine anyR_skipG Later.pre 18 rfl (by kernel_rfl) (by kernel_rfl) (by kernel_rfl) (fun _ _ _ _ h => h) (by rfl) ?_; simp only [Act.put, List.setIfInBounds_toArray, List.set_cons_zero, List.set_cons_succ]
    refine anyR_skipG Later.pre 19 rfl (by kernel_rfl) (by kernel_rfl) (by kernel_rfl) (fun _ _ _ _ h => h) (by rfl) ?_; simp only [Act.put, List.setIfInBounds_toArray, List.set_cons_zero, List.set_cons_succ]
    refine anyR_skipG Later.pre 20 rfl (by kernel_rfl) (by kernel_rfl) (by kernel_rfl) (fun _ _ _ _ h => h) (by rfl) ?_; simp only [Act.put, List.setIfInBounds_toArray, List.set_cons_zero, List.set_cons_succ]
    refine anyR_skipG Later.pre 21 rfl (by kernel_rfl) (by kernel_rfl) (by kernel_rfl) (fun _ _ _ _ h => h) (by rfl) ?_; simp only [Act.put, List.setIfInBounds_toArray, List.set_cons_zero, List.set_cons_succ]
    refine anyR_val Later.pre 22 rfl (by kernel_rfl) (by kernel_rfl) (by kernel_rfl) (fun _ _ _ _ h => h) rfl ?_; apply Exists.intro; refine ⟨fun v1 hv1 => ?_, ?_⟩; (· (go_simp; rfl)); simp only [Act.put, List.setIfInBounds_toArray, List.set_cons_zero, List.set_cons_succ]
    refine anyR_done (by kernel_rfl) (fun VD hVD => ?_)
    go_wp2_with fail
    go_ret
    exact ⟨rfl, But.of (hWd.trans hVD), RB.later HB.out (hWd.trans hVD)⟩
end Go.Proofs.YtfnlakpjepjhbaaDoor
