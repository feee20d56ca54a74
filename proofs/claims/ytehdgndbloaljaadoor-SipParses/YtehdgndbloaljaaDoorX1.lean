/- Several texts in one. -/
import Derived.Test.YtehdgndbloaljaaDoorX2
import Derived.Deep.Cut
import Derived.Sort.CutIn
/- The document's size and Right. -/
namespace Go.Proofs.YtehdgndbloaljaaDoor
open Go.RowKit Go.Shelf
set_option maxRecDepth 100000
set_option linter.unusedVariables false
set_option linter.unusedSimpArgs false

/-- A size: more than 4096 or not, as the message's. -/
def SzQ (n : Nat) (e : Ending) : Prop := ∃ r : Int, e = .returned (.int .i64 r) ∧ decide (4096 < r) = decide (4096 < n)

set_option maxRecDepth 100000 in
set_option maxHeartbeats 8000000 in
theorem rsize_any (st : ByteArray) (hs : List Hr) (sv sb : Value) (zb : List Int) (w : World) (hI : RdM w.heap.size w sv hs) (hB : Rd w.heap.size w sb zb) (hz : szM st hs zb.length ≤ 9000000000000000000) :
    Calls Tryd.prog 41 #[.agg #[.string st, sv, sb]] w fun e w' => SzQ (szM st hs zb.length) e ∧ Later w w' := by
  obtain ⟨ah, ch, rfl, hl1, hm1⟩ := hI.slice
  obtain ⟨ab, cb, rfl, hl2, hm2⟩ := hB.slice
  have l0 : Later w (w.alloc (.cells #[.string st, .slice ah hs.length ch, .slice ab zb.length cb] 31)) := later_allocR _ _
  have C0 := hide (heap_alloc_new w (.cells #[.string st, .slice ah hs.length ch, .slice ab zb.length cb] 31))
  have HL := hsz_len hs
  have HZ : Hid (szM st hs zb.length = st.size + 2 + hsz hs + 2 + zb.length) := rfl
  have hz2 : st.size + 2 + hsz hs + 2 + zb.length ≤ 9000000000000000000 := hz
  generalize szM st hs zb.length = sz at *
  go_enter Tryd.func41, Tryd.ntmps41
  go_upto_region 1 with fail
  generalize w.alloc _ = w0 at *
  have HI := hide (hI.later l0)
  generalize w.heap.size = gm at *
  have k0 := block_cell C0.out
  go_upto_region 3 with fail
  clear k0
  go_loopw [3, 4] (fun nv iv wr => ∃ k : Nat, k ≤ hs.length ∧ iv = .int .i64 (k : Int) ∧ nv = .int .i64 ((st.size + 4 + zb.length + hsz (hs.take k) : Nat) : Int) ∧ Later w0 wr) (fun _ iv _ => hs.length - (intOf iv).toNat)
  case atStart => exact ⟨0, by omega, rfl, by simp [hsz], Later.refl _⟩
  case round =>
    obtain ⟨k, hk, rfl, rfl, lr⟩ := hrel
    have hle0 := hsz_take_le hs k
    have k1 := block_cell (later_keep lr C0.out)
    by_cases hlt : k < hs.length
    · have hlt' : (k : Int) < (hs.length : Int) := by omega
      by_cases h4 : st.size + 4 + zb.length + hsz (hs.take k) ≤ 4096
      · have h4' : ((st.size + 4 + zb.length + hsz (hs.take k) : Nat) : Int) ≤ 4096 := by omega
        obtain ⟨b, off, cp, e, _, _, hbn, hcs⟩ := (HI.out.below lr).cells (by omega)
        cases e
        have d0 := hcs k hlt 0 (by omega)
        have d1 := hcs k hlt 1 (by omega)
        have hsn : hs.take (k + 1) = hs.take k ++ [hs[k]] := by rw [← List.take_append_getElem hlt]
        have hsz1 : hsz (hs.take (k + 1)) = hsz (hs.take k) + (hs[k].1.size + 2 + hs[k].2.size + 2) := by rw [hsn, hsz_snoc]
        have hle := hsz_take_le hs (k + 1)
        clear hcs hsn
        generalize hs[k] = r at *
        obtain ⟨x, y⟩ := r
        simp only [hrc, List.getElem?_cons_zero, List.getElem?_cons_succ, Nat.add_zero] at d0 d1 hsz1
        have HS1 := hide hsz1
        rw [hsz1] at hle
        clear hsz1 h4 hle0
        generalize hn0 : st.size + 4 + zb.length + hsz (hs.take k) = n0 at *
        have HN0 := hide hn0
        have hxy : n0 + (x.size + y.size + 4) ≤ 9000000000000000000 := by omega
        clear hn0 hle
        go_upto_region 5 with fail
        clear k1
        refine anyR_begin (R := Later) Later.pre Later.drew 19 rfl (by kernel_rfl) (fun V0 hV0 => ?_)
        have k1 : ∀ v, Later V0 v → ∀ j, v.cell? ⟨gm, j, none⟩ = #[.string st, .slice (some ⟨b, off, none⟩) hs.length ch, .slice ab zb.length cb][j]? := fun v hv => block_cell (later_keep (lr.trans (hV0.trans hv)) C0.out)
        have q0 : ∀ v, Later V0 v → v.cell? ⟨b, off + k * 2, none⟩ = some (.string x) := fun v hv => (hV0.trans hv).cell d0
        have q1 : ∀ v, Later V0 v → v.cell? ⟨b, off + k * 2 + 1, none⟩ = some (.string y) := fun v hv => (hV0.trans hv).cell d1
        clear d0 d1
        refine anyR_val Later.pre 0 rfl (by kernel_rfl) (by kernel_rfl) (by kernel_rfl) (fun _ _ _ _ h => h) rfl ?_; apply Exists.intro; refine ⟨fun v1 hv1 => ?_, ?_⟩; (· (go_simp; rfl)); simp only [Act.put, List.setIfInBounds_toArray, List.set_cons_zero, List.set_cons_succ]
        refine anyR_val Later.pre 1 rfl (by kernel_rfl) (by kernel_rfl) (by kernel_rfl) (fun _ _ _ _ h => h) rfl ?_; apply Exists.intro; refine ⟨fun v1 hv1 => ?_, ?_⟩; (· (go_simp; rfl)); simp only [Act.put, List.setIfInBounds_toArray, List.set_cons_zero, List.set_cons_succ]
        refine anyR_val Later.pre 2 rfl (by kernel_rfl) (by kernel_rfl) (by kernel_rfl) (fun _ _ _ _ h => h) rfl ?_; apply Exists.intro; refine ⟨fun v1 hv1 => ?_, ?_⟩; (· (go_simp; rfl)); simp only [Act.put, List.setIfInBounds_toArray, List.set_cons_zero, List.set_cons_succ]
        refine anyR_val Later.pre 3 rfl (by kernel_rfl) (by kernel_rfl) (by kernel_rfl) (fun _ _ _ _ h => h) rfl ?_; apply Exists.intro; refine ⟨fun v1 hv1 => ?_, ?_⟩; (· (go_simp; rfl)); simp only [Act.put, List.setIfInBounds_toArray, List.set_cons_zero, List.set_cons_succ]
        refine anyR_val Later.pre 4 rfl (by kernel_rfl) (by kernel_rfl) (by kernel_rfl) (fun _ _ _ _ h => h) rfl ?_; apply Exists.intro; refine ⟨fun v1 hv1 => ?_, ?_⟩; (· (go_simp; rfl)); simp only [Act.put, List.setIfInBounds_toArray, List.set_cons_zero, List.set_cons_succ]
        refine anyR_val Later.pre 5 rfl (by kernel_rfl) (by kernel_rfl) (by kernel_rfl) (fun _ _ _ _ h => h) rfl ?_; apply Exists.intro; refine ⟨fun v1 hv1 => ?_, ?_⟩; (· (go_simp; rfl)); simp only [Act.put, List.setIfInBounds_toArray, List.set_cons_zero, List.set_cons_succ]
        refine anyR_val Later.pre 6 rfl (by kernel_rfl) (by kernel_rfl) (by kernel_rfl) (fun _ _ _ _ h => h) rfl ?_; apply Exists.intro; refine ⟨fun v1 hv1 => ?_, ?_⟩; (· (go_simp; rfl)); simp only [Act.put, List.setIfInBounds_toArray, List.set_cons_zero, List.set_cons_succ]
        refine anyR_val Later.pre 7 rfl (by kernel_rfl) (by kernel_rfl) (by kernel_rfl) (fun _ _ _ _ h => h) rfl ?_; apply Exists.intro; refine ⟨fun v1 hv1 => ?_, ?_⟩; (· (go_simp; rfl)); simp only [Act.put, List.setIfInBounds_toArray, List.set_cons_zero, List.set_cons_succ]
        refine anyR_val Later.pre 8 rfl (by kernel_rfl) (by kernel_rfl) (by kernel_rfl) (fun _ _ _ _ h => h) rfl ?_; apply Exists.intro; refine ⟨fun v1 hv1 => ?_, ?_⟩; (· (go_simp; rfl)); simp only [Act.put, List.setIfInBounds_toArray, List.set_cons_zero, List.set_cons_succ]
        refine anyR_val Later.pre 9 rfl (by kernel_rfl) (by kernel_rfl) (by kernel_rfl) (fun _ _ _ _ h => h) rfl ?_; apply Exists.intro; refine ⟨fun v1 hv1 => ?_, ?_⟩; (· (go_simp; rfl)); simp only [Act.put, List.setIfInBounds_toArray, List.set_cons_zero, List.set_cons_succ]
        refine anyR_val Later.pre 10 rfl (by kernel_rfl) (by kernel_rfl) (by kernel_rfl) (fun _ _ _ _ h => h) rfl ?_; apply Exists.intro; refine ⟨fun v1 hv1 => ?_, ?_⟩; (· (go_simp; rfl)); simp only [Act.put, List.setIfInBounds_toArray, List.set_cons_zero, List.set_cons_succ]
        refine anyR_val Later.pre 11 rfl (by kernel_rfl) (by kernel_rfl) (by kernel_rfl) (fun _ _ _ _ h => h) rfl ?_; apply Exists.intro; refine ⟨fun v1 hv1 => ?_, ?_⟩; (· (go_simp; rfl)); simp only [Act.put, List.setIfInBounds_toArray, List.set_cons_zero, List.set_cons_succ]
        refine anyR_val Later.pre 12 rfl (by kernel_rfl) (by kernel_rfl) (by kernel_rfl) (fun _ _ _ _ h => h) rfl ?_; apply Exists.intro; refine ⟨fun v1 hv1 => ?_, ?_⟩; (· (go_simp; rfl)); simp only [Act.put, List.setIfInBounds_toArray, List.set_cons_zero, List.set_cons_succ]
        refine anyR_val Later.pre 13 rfl (by kernel_rfl) (by kernel_rfl) (by kernel_rfl) (fun _ _ _ _ h => h) rfl ?_; apply Exists.intro; refine ⟨fun v1 hv1 => ?_, ?_⟩; (· (go_simp; rfl)); simp only [Act.put, List.setIfInBounds_toArray, List.set_cons_zero, List.set_cons_succ]
        refine anyR_val Later.pre 14 rfl (by kernel_rfl) (by kernel_rfl) (by kernel_rfl) (fun _ _ _ _ h => h) rfl ?_; apply Exists.intro; refine ⟨fun v1 hv1 => ?_, ?_⟩; (· (go_simp; rfl)); simp only [Act.put, List.setIfInBounds_toArray, List.set_cons_zero, List.set_cons_succ]
        refine anyR_val Later.pre 15 rfl (by kernel_rfl) (by kernel_rfl) (by kernel_rfl) (fun _ _ _ _ h => h) rfl ?_; apply Exists.intro; refine ⟨fun v1 hv1 => ?_, ?_⟩; (· (go_simp; rfl)); simp only [Act.put, List.setIfInBounds_toArray, List.set_cons_zero, List.set_cons_succ]
        refine anyR_val Later.pre 16 rfl (by kernel_rfl) (by kernel_rfl) (by kernel_rfl) (fun _ _ _ _ h => h) rfl ?_; apply Exists.intro; refine ⟨fun v1 hv1 => ?_, ?_⟩; (· (go_simp; rfl)); simp only [Act.put, List.setIfInBounds_toArray, List.set_cons_zero, List.set_cons_succ]
        refine anyR_val Later.pre 17 rfl (by kernel_rfl) (by kernel_rfl) (by kernel_rfl) (fun _ _ _ _ h => h) rfl ?_; apply Exists.intro; refine ⟨fun v1 hv1 => ?_, ?_⟩; (· (go_simp; rfl)); simp only [Act.put, List.setIfInBounds_toArray, List.set_cons_zero, List.set_cons_succ]
        refine anyR_val Later.pre 18 rfl (by kernel_rfl) (by kernel_rfl) (by kernel_rfl) (fun _ _ _ _ h => h) rfl ?_; apply Exists.intro; refine ⟨fun v1 hv1 => ?_, ?_⟩; (· (go_simp; rfl)); simp only [Act.put, List.setIfInBounds_toArray, List.set_cons_zero, List.set_cons_succ]
        clear k1 q0 q1
        refine anyR_done (by kernel_rfl) (fun V9 hV9 => ?_)
        have L9 : Later w0 V9 := lr.trans (hV0.trans hV9)
        have e1 := wrI (x := (x.size : Int) + (y.size : Int)) (by omega) (by omega)
        have e2 := wrI (x := (x.size : Int) + (y.size : Int) + 4) (by omega) (by omega)
        have e3 := wrI (x := (n0 : Int) + ((x.size : Int) + (y.size : Int) + 4)) (by omega) (by omega)
        simp only [e1, e2, e3]
        clear e1 e2 e3
        go_wp2_with fail
        go_roundw
        case rel => exact ⟨k + 1, by omega, by go_num, by rw [HS1.out]; congr 1; have := HN0.out; omega, L9⟩
        case measure => simp [intOf]; omega
      · have h4' : ¬ ((st.size + 4 + zb.length + hsz (hs.take k) : Nat) : Int) ≤ 4096 := by omega
        have HV : Hid (decide (4096 < ((st.size + 4 + zb.length + hsz (hs.take k) : Nat) : Int)) = decide (4096 < sz)) := by show _ = _; rw [decide_eq_true (by omega), decide_eq_true (by have := HZ.out; omega)]
        clear h4
        generalize st.size + 4 + zb.length + hsz (hs.take k) = n0 at *
        go_wp2_with fail
        go_ret
        exact ⟨⟨_, rfl, HV.out⟩, Later.trans l0 lr⟩
    · obtain rfl : k = hs.length := by omega
      have hnl : ¬ ((hs.length : Nat) : Int) < (hs.length : Int) := by omega
      rw [List.take_length]
      have HV : Hid (decide (4096 < ((st.size + 4 + zb.length + hsz hs : Nat) : Int)) = decide (4096 < sz)) := by show _ = _; rw [decide_eq_decide]; have := HZ.out; omega
      generalize st.size + 4 + zb.length + hsz hs = n0 at *
      go_wp2_with fail
      go_ret
      exact ⟨⟨_, rfl, HV.out⟩, Later.trans l0 lr⟩

/-- A value with a blank ahead or behind. -/
theorem vl_blank (v : ByteArray) (h : v.size ≠ 0) : (Lib.hasPrefix v.data.toList [32] = (bAt v 0 == 32)) ∧ (Lib.hasSuffix v.data.toList [32] = (bAt v (v.size - 1) == 32)) := by
  have hl : v.data.toList.length = v.size := (ba_len v).symm
  constructor
  · unfold Lib.hasPrefix bAt
    cases hv : v.data.toList with
    | nil => rw [hv] at hl; simp at hl; omega
    | cons a l =>
      have : v.get! 0 = a := by
        have h0 : 0 < v.data.size := by show 0 < v.size; omega
        simp only [ByteArray.get!]
        rw [getElem!_pos v.data 0 h0, ← Array.getElem_toList]
        simp [hv]
      rw [this, Bool.eq_iff_iff]
      simp only [List.isPrefixOf, Bool.and_true, beq_iff_eq]
      constructor
      · intro e; rw [← e]; rfl
      · intro e; apply UInt8.toNat_inj.1; have : (32 : UInt8).toNat = 32 := rfl; omega
  · unfold Lib.hasSuffix bAt
    have hne : v.data.toList ≠ [] := fun e => by rw [e] at hl; simp at hl; omega
    have hdl : v.data.toList = v.data.toList.dropLast ++ [v.data.toList.getLast hne] := (List.dropLast_concat_getLast hne).symm
    have hga : v.get! (v.size - 1) = v.data.toList.getLast hne := by
      have h0 : v.size - 1 < v.data.size := by show _ < v.size; omega
      simp only [ByteArray.get!]
      rw [getElem!_pos v.data (v.size - 1) h0, List.getLast_eq_getElem, ← Array.getElem_toList]
      congr 1
    rw [hga, Bool.eq_iff_iff, List.isSuffixOf_iff_suffix, beq_iff_eq]
    generalize v.data.toList.getLast hne = a at *
    constructor
    · rintro ⟨t, ht⟩
      rw [hdl] at ht
      have := (List.append_inj' ht rfl).2
      simp only [List.cons.injEq, and_true] at this
      rw [← this]; rfl
    · intro e
      have : a = 32 := by apply UInt8.toNat_inj.1; have : (32 : UInt8).toNat = 32 := rfl; omega
      exact ⟨v.data.toList.dropLast, by rw [hdl, this]; simp⟩
end Go.Proofs.YtehdgndbloaljaaDoor

/- The document's Right. -/
namespace Go.Proofs.YtehdgndbloaljaaDoor
open Go.RowKit Go.Shelf
set_option maxRecDepth 100000
set_option linter.unusedVariables false
set_option linter.unusedSimpArgs false

set_option maxRecDepth 100000 in
set_option maxHeartbeats 16000000 in
theorem rright14_any (st : ByteArray) (hs : List Hr) (sv sb : Value) (zb : List Int) (w : World) (hI : RdM w.heap.size w sv hs) (hB : Rd w.heap.size w sb zb) (hz : szM st hs zb.length ≤ 9000000000000000000) (hzs : st.size ≤ 140737488355328 ∧ ∀ h ∈ hs, h.1.size ≤ 140737488355328 ∧ h.2.size ≤ 140737488355328) :
    Calls Tryd.prog 22 #[.agg #[.string st, sv, sb]] w fun e w' => e = .returned (.bool (rgB st hs zb.length)) ∧ Later w w' := by
  obtain ⟨ah, ch, rfl, hl1, hm1⟩ := hI.slice
  obtain ⟨ab, cb, rfl, hl2, hm2⟩ := hB.slice
  have HR : Hid (rgB st hs zb.length = (allB lnC st && (!(st.size == 0) && ((decide (hs.length ≤ 64) && (hs.all (okh zb.length) && decide (hs.countP (fun h => swV h.1 clN) = 1))) && decide (szM st hs zb.length ≤ 4096))))) := rfl
  generalize rgB st hs zb.length = r at *
  have l0 : Later w (w.alloc (.cells #[.string st, .slice ah hs.length ch, .slice ab zb.length cb] 31)) := later_allocR _ _
  have C0 := hide (heap_alloc_new w (.cells #[.string st, .slice ah hs.length ch, .slice ab zb.length cb] 31))
  have hzz : hsz hs ≤ 9000000000000000000 := by unfold szM at hz; omega
  have HSZ := hide (fun W (l : Later w W) => rsize_any st hs _ _ zb W (hI.later l) (hB.later l) hz)
  generalize szM st hs zb.length = sz at *
  go_enter Tryd.func22, Tryd.ntmps22
  go_upto_region 1 with fail
  generalize w.alloc _ = w0 at *
  have HI := hide (hI.later l0)
  generalize w.heap.size = gm at *
  have k0 := block_cell C0.out
  by_cases hs0 : st.size = 0
  · have HE : Hid (r = false) := by show _ = _; rw [HR.out, hs0]; simp
    obtain rfl := str_empty st hs0
    go_wp2_with fail
    go_ret
    exact ⟨by rw [HE.out]; rfl, l0⟩
  have hne := str_ne hs0
  have HR2 : Hid (r = (allB lnC st && ((decide (hs.length ≤ 64) && (hs.all (okh zb.length) && decide (hs.countP (fun h => swV h.1 clN) = 1))) && decide (sz ≤ 4096)))) := by show _ = _; rw [HR.out, show (st.size == 0) = false from by simpa using hs0]; rfl
  clear HR hs0
  go_wp2_with fail
  refine (rplain_any st w0 (by omega)).mono ?_
  generalize allB lnC st = b1 at *
  rintro e w1 ⟨rfl, hw⟩
  rw [hw]
  clear hw w1
  cases b1 with
  | false =>
    go_wp2_with fail
    go_ret
    exact ⟨by rw [HR2.out]; rfl, l0⟩
  | true =>
    by_cases h64 : hs.length ≤ 64
    case neg =>
      have h1 : (64 : Int) < (hs.length : Int) := by omega
      have HE : Hid (r = false) := by show _ = _; rw [HR2.out]; simp [h64]
      go_wp2_with fail
      go_ret
      exact ⟨by rw [HE.out]; rfl, l0⟩
    have h1 : ¬ (64 : Int) < (hs.length : Int) := by omega
    go_wp2_with fail
    refine (HSZ.out w0 l0).mono ?_
    rintro e w2 ⟨⟨rr, rfl, hrr⟩, l2⟩
    clear k0
    by_cases hb : sz ≤ 4096
    case neg =>
      have h2 : 4096 < rr := by rw [decide_eq_true (by omega : 4096 < sz)] at hrr; exact of_decide_eq_true hrr
      have HE : Hid (r = false) := by show _ = _; rw [HR2.out]; simp [hb]
      clear hrr
      go_wp2_with fail
      go_ret
      exact ⟨by rw [HE.out]; rfl, Later.trans l0 l2⟩
    have h2 : ¬ 4096 < rr := by rw [decide_eq_false (by omega : ¬ 4096 < sz)] at hrr; exact of_decide_eq_false hrr
    have HR3 : Hid (r = (hs.all (okh zb.length) && decide (hs.countP (fun h => swV h.1 clN) = 1))) := by show _ = _; rw [HR2.out]; simp [h64, hb]
    have C2 := hide (later_keep l2 C0.out)
    have L2 : Later w w2 := Later.trans l0 l2
    have HI2 := hide (HI.out.later l2)
    clear HR2 hrr C0 HSZ
    go_upto_region 5 with fail
    clear h1 h2
    go_loopw [3, 4, 5, 6] (fun nv iv pv vv wr => ∃ k : Nat, k ≤ hs.length ∧ iv = .int .i64 (k : Int) ∧ nv = .int .i64 (((hs.take k).countP (fun h => swV h.1 clN) : Nat) : Int) ∧ Later w2 wr ∧ Hid ((hs.take k).all (okh zb.length) = true)) (fun _ iv _ _ _ => hs.length - (intOf iv).toNat)
    case atStart => exact ⟨0, by omega, rfl, rfl, Later.refl _, hide rfl⟩
    case round =>
      obtain ⟨k, hk, rfl, rfl, lr, hal⟩ := hrel
      have k1 := block_cell (later_keep lr C2.out)
      by_cases hlt : k < hs.length
      · have hlt' : (k : Int) < (hs.length : Int) := by omega
        obtain ⟨b, off, cp, e, _, _, hbn, hcs⟩ := (HI2.out.below lr).cells (by omega)
        cases e
        have d0 := hcs k hlt 0 (by omega)
        have d1 := hcs k hlt 1 (by omega)
        have hsn : hs.take (k + 1) = hs.take k ++ [hs[k]] := by rw [← List.take_append_getElem hlt]
        have hmem := List.getElem_mem hlt
        have hzm := hzs.2 _ hmem
        have HNO : Hid (okh zb.length hs[k] = false → r = false) := fun h => by
          rw [HR3.out]
          have : hs.all (okh zb.length) = false := by rw [List.all_eq_false]; exact ⟨hs[k], hmem, by simp [h]⟩
          rw [this]; rfl
        have HYE : Hid (okh zb.length hs[k] = true → (hs.take (k + 1)).all (okh zb.length) = true) := fun h => by rw [hsn, List.all_append, hal.out]; simp [h]
        have HCT : Hid ((hs.take (k + 1)).countP (fun h => swV h.1 clN) = (hs.take k).countP (fun h => swV h.1 clN) + (if swV hs[k].1 clN = true then 1 else 0)) := by show _ = _; rw [hsn, List.countP_append]; simp [List.countP_cons]
        have hcl : (hs.take k).countP (fun h => swV h.1 clN) ≤ k := by
          have := List.countP_le_length (p := fun h : Hr => swV h.1 clN) (l := hs.take k)
          rw [List.length_take] at this
          omega
        clear hcs hsn hmem
        generalize hs[k] = rr at *
        obtain ⟨x, y⟩ := rr
        simp only [hrc, List.getElem?_cons_zero, List.getElem?_cons_succ, Nat.add_zero] at d0 d1 hzm HCT
        have HOK : Hid (okh zb.length (x, y) = (allN nmC x && ((allB lnC y && (!Lib.hasPrefix y.data.toList [32] && !Lib.hasSuffix y.data.toList [32])) && (!swV x clN || eqS y (decB zb.length))))) := rfl
        rw [HOK.out] at HNO HYE
        clear HOK
        generalize (hs.take k).countP (fun h => swV h.1 clN) = c at *
        have la := later_allocR wr (.cells #[.string x, .string y] 64)
        have B1 := hide (heap_alloc_new wr (.cells #[.string x, .string y] 64))
        go_upto_region 8 with fail
        clear d0 d1 k1
        generalize wr.alloc _ = wq at *
        generalize wr.heap.size = gh at *
        have lq := lr.trans la
        have k1 := block_cell B1.out
        go_wp2_with fail
        refine (rname_any x wq (by omega)).mono ?_
        generalize allN nmC x = b1 at *
        rintro e w1 ⟨rfl, hw⟩
        rw [hw]
        clear hw w1
        cases b1 with
        | false =>
          have HVV := hide (HNO.out rfl)
          clear HNO HYE
          go_wp2_with fail
          go_ret
          exact ⟨by rw [HVV.out]; rfl, L2.trans lq⟩
        | true =>
          go_wp2_with fail
          refine (rplain_any y wq (by omega)).mono ?_
          generalize allB lnC y = b2 at *
          rintro e w1 ⟨rfl, hw⟩
          rw [hw]
          clear hw w1
          cases b2 with
          | false =>
            have HVV := hide (HNO.out rfl)
            clear HNO HYE
            go_wp2_with fail
            go_ret
            exact ⟨by rw [HVV.out]; rfl, L2.trans lq⟩
          | true =>
            by_cases hy0 : y.size = 0
            · have e1 : Lib.hasPrefix y.data.toList [32] = false := by rw [str_empty y hy0]; rfl
              have e2 : Lib.hasSuffix y.data.toList [32] = false := by rw [str_empty y hy0]; rfl
              rw [e1, e2] at HNO HYE
              clear e1 e2
              have hye : y.toList.isEmpty = true := by rw [str_empty y hy0, ByteArray.toList_eq]; rfl
              clear hy0
              go_upto_region 13 with fail
              clear k1
              have k1 := block_cell B1.out
              have HLC := hide (low_cl x)
              have HLW := hide (rlower_any x wq (by omega))
              generalize strOfNums (lowZ x) = lx at *
              generalize swV x clN = b3 at *
              have hlc : (lx.toList == [99, 111, 110, 116, 101, 110, 116, 45, 108, 101, 110, 103, 116, 104]) = b3 := by rw [← HLC.out, ByteArray.toList_eq ⟨#[99, 111, 110, 116, 101, 110, 116, 45, 108, 101, 110, 103, 116, 104]⟩]
              go_wp2_with fail
              refine HLW.out.mono ?_
              rintro e w3 ⟨rfl, l3⟩
              clear k1
              cases b3 with
              | false =>
                have HYY := hide (HYE.out rfl)
                clear HNO HYE
                go_wp2_with fail
                go_roundw
                case rel => exact ⟨k + 1, by omega, by go_num, by rw [HCT.out]; rfl, lq.trans l3, HYY⟩
                case measure => simp [intOf]; omega
              | true =>
                have hc1 : (c : Int) ≤ 64 := by omega
                go_upto_region 15 with fail
                clear hlc
                have B3 := hide (later_keep l3 B1.out)
                have C3 := hide (later_keep (lq.trans l3) C2.out)
                refine anyR_begin (R := Later) Later.pre Later.drew 7 rfl (by kernel_rfl) (fun V0 hV0 => ?_)
                have qH : ∀ v, Later V0 v → ∀ j, v.cell? ⟨gh, j, none⟩ = #[Value.string x, .string y][j]? := fun v hv => block_cell (later_keep (hV0.trans hv) B3.out)
                have qM : ∀ v, Later V0 v → ∀ j, v.cell? ⟨gm, j, none⟩ = #[Value.string st, .slice (some ⟨b, off, none⟩) hs.length ch, .slice ab zb.length cb][j]? := fun v hv => block_cell (later_keep (hV0.trans hv) C3.out)
                refine anyR_val Later.pre 0 rfl (by kernel_rfl) (by kernel_rfl) (by kernel_rfl) (fun _ _ _ _ h => h) rfl ?_; apply Exists.intro; refine ⟨fun v1 hv1 => ?_, ?_⟩; (· (go_simp; rfl)); simp only [Act.put, List.setIfInBounds_toArray, List.set_cons_zero, List.set_cons_succ]
                refine anyR_val Later.pre 1 rfl (by kernel_rfl) (by kernel_rfl) (by kernel_rfl) (fun _ _ _ _ h => h) rfl ?_; apply Exists.intro; refine ⟨fun v1 hv1 => ?_, ?_⟩; (· (go_simp; rfl)); simp only [Act.put, List.setIfInBounds_toArray, List.set_cons_zero, List.set_cons_succ]
                refine anyR_val Later.pre 2 rfl (by kernel_rfl) (by kernel_rfl) (by kernel_rfl) (fun _ _ _ _ h => h) rfl ?_; apply Exists.intro; refine ⟨fun v1 hv1 => ?_, ?_⟩; (· (go_simp; rfl)); simp only [Act.put, List.setIfInBounds_toArray, List.set_cons_zero, List.set_cons_succ]
                refine anyR_val Later.pre 3 rfl (by kernel_rfl) (by kernel_rfl) (by kernel_rfl) (fun _ _ _ _ h => h) rfl ?_; apply Exists.intro; refine ⟨fun v1 hv1 => ?_, ?_⟩; (· (go_simp; rfl)); simp only [Act.put, List.setIfInBounds_toArray, List.set_cons_zero, List.set_cons_succ]
                refine anyR_val Later.pre 4 rfl (by kernel_rfl) (by kernel_rfl) (by kernel_rfl) (fun _ _ _ _ h => h) rfl ?_; apply Exists.intro; refine ⟨fun v1 hv1 => ?_, ?_⟩; (· (go_simp; rfl)); simp only [Act.put, List.setIfInBounds_toArray, List.set_cons_zero, List.set_cons_succ]
                refine anyR_take Later.pre 5 (.string (decB zb.length)) rfl (by kernel_rfl) (by kernel_rfl) (by kernel_rfl) (fun _ _ _ h => h) rfl (fun v1 hv1 => goes_call 44 #[.int .i64 (zb.length : Int)] (by go_simp) (rdigits_any zb.length (by omega) v1)) ?_
                simp only [Act.put, List.setIfInBounds_toArray, List.set_cons_zero, List.set_cons_succ]
                refine anyR_val Later.pre 6 rfl (by kernel_rfl) (by kernel_rfl) (by kernel_rfl) (fun _ _ _ _ h => h) rfl ?_; apply Exists.intro; refine ⟨fun v1 hv1 => ?_, ?_⟩; (· (go_simp; rfl)); simp only [Act.put, List.setIfInBounds_toArray, List.set_cons_zero, List.set_cons_succ]
                clear qH qM
                refine anyR_done (by kernel_rfl) (fun V9 hV9 => ?_)
                have L9 := lq.trans (l3.trans (hV0.trans hV9))
                rw [str_beq y (decB zb.length)]
                generalize eqS y (decB zb.length) = b4 at *
                cases b4 with
                | false =>
                  have HVV := hide (HNO.out rfl)
                  clear HNO HYE
                  go_wp2_with fail
                  go_ret
                  exact ⟨by rw [HVV.out]; rfl, L2.trans L9⟩
                | true =>
                  have HYY := hide (HYE.out rfl)
                  clear HNO HYE
                  go_wp2_with fail
                  go_roundw
                  case rel => exact ⟨k + 1, by omega, by go_num, by rw [HCT.out]; go_num, L9, HYY⟩
                  case measure => simp [intOf]; omega
            · have hyn := str_ne hy0
              obtain ⟨e1, e2⟩ := vl_blank y hy0
              rw [e1, e2] at HNO HYE
              clear e1 e2
              have hp0 : 0 < y.size := by omega
              have hp0' : (0 : Int) < (y.size : Int) := by omega
              have hq0 : y.size - 1 < y.size := by omega
              have g1 := bAt_get y 0 hp0
              have g2 := bAt_get y (y.size - 1) hq0
              rw [← g1, ← g2] at HNO HYE
              clear g1 g2 hy0
              have hys : (y.size : Int) - 1 = ((y.size - 1 : Nat) : Int) := by omega
              have hys2 : ((y.size - 1 : Nat) : Int) < (y.size : Int) := by omega
              have hyb : (y.size : Int) ≤ 140737488355328 := by omega
              cases hb1 : (((y[0]'hp0).toNat : Nat) : Int) == 32 with
              | true =>
                rw [hb1] at HNO HYE
                have HVV := hide (HNO.out rfl)
                clear HNO HYE
                go_wp2_with fail
                go_ret
                exact ⟨by rw [HVV.out]; rfl, L2.trans lq⟩
              | false =>
                rw [hb1] at HNO HYE
                cases hb2 : (((y[y.size - 1]'hq0).toNat : Nat) : Int) == 32 with
                | true =>
                  rw [hb2] at HNO HYE
                  have HVV := hide (HNO.out rfl)
                  clear HNO HYE
                  go_wp2_with fail
                  go_ret
                  exact ⟨by rw [HVV.out]; rfl, L2.trans lq⟩
                | false =>
                  rw [hb2] at HNO HYE
                  go_upto_region 13 with fail
                  clear k1
                  have k1 := block_cell B1.out
                  have HLC := hide (low_cl x)
                  have HLW := hide (rlower_any x wq (by omega))
                  generalize strOfNums (lowZ x) = lx at *
                  generalize swV x clN = b3 at *
                  have hlc : (lx.toList == [99, 111, 110, 116, 101, 110, 116, 45, 108, 101, 110, 103, 116, 104]) = b3 := by rw [← HLC.out, ByteArray.toList_eq ⟨#[99, 111, 110, 116, 101, 110, 116, 45, 108, 101, 110, 103, 116, 104]⟩]
                  go_wp2_with fail
                  refine HLW.out.mono ?_
                  rintro e w3 ⟨rfl, l3⟩
                  clear k1
                  cases b3 with
                  | false =>
                    have HYY := hide (HYE.out rfl)
                    clear HNO HYE
                    go_wp2_with fail
                    go_roundw
                    case rel => exact ⟨k + 1, by omega, by go_num, by rw [HCT.out]; rfl, lq.trans l3, HYY⟩
                    case measure => simp [intOf]; omega
                  | true =>
                    have hc1 : (c : Int) ≤ 64 := by omega
                    go_upto_region 15 with fail
                    clear hlc
                    have B3 := hide (later_keep l3 B1.out)
                    have C3 := hide (later_keep (lq.trans l3) C2.out)
                    refine anyR_begin (R := Later) Later.pre Later.drew 7 rfl (by kernel_rfl) (fun V0 hV0 => ?_)
                    have qH : ∀ v, Later V0 v → ∀ j, v.cell? ⟨gh, j, none⟩ = #[Value.string x, .string y][j]? := fun v hv => block_cell (later_keep (hV0.trans hv) B3.out)
                    have qM : ∀ v, Later V0 v → ∀ j, v.cell? ⟨gm, j, none⟩ = #[Value.string st, .slice (some ⟨b, off, none⟩) hs.length ch, .slice ab zb.length cb][j]? := fun v hv => block_cell (later_keep (hV0.trans hv) C3.out)
                    refine anyR_val Later.pre 0 rfl (by kernel_rfl) (by kernel_rfl) (by kernel_rfl) (fun _ _ _ _ h => h) rfl ?_; apply Exists.intro; refine ⟨fun v1 hv1 => ?_, ?_⟩; (· (go_simp; rfl)); simp only [Act.put, List.setIfInBounds_toArray, List.set_cons_zero, List.set_cons_succ]
                    refine anyR_val Later.pre 1 rfl (by kernel_rfl) (by kernel_rfl) (by kernel_rfl) (fun _ _ _ _ h => h) rfl ?_; apply Exists.intro; refine ⟨fun v1 hv1 => ?_, ?_⟩; (· (go_simp; rfl)); simp only [Act.put, List.setIfInBounds_toArray, List.set_cons_zero, List.set_cons_succ]
                    refine anyR_val Later.pre 2 rfl (by kernel_rfl) (by kernel_rfl) (by kernel_rfl) (fun _ _ _ _ h => h) rfl ?_; apply Exists.intro; refine ⟨fun v1 hv1 => ?_, ?_⟩; (· (go_simp; rfl)); simp only [Act.put, List.setIfInBounds_toArray, List.set_cons_zero, List.set_cons_succ]
                    refine anyR_val Later.pre 3 rfl (by kernel_rfl) (by kernel_rfl) (by kernel_rfl) (fun _ _ _ _ h => h) rfl ?_; apply Exists.intro; refine ⟨fun v1 hv1 => ?_, ?_⟩; (· (go_simp; rfl)); simp only [Act.put, List.setIfInBounds_toArray, List.set_cons_zero, List.set_cons_succ]
                    refine anyR_val Later.pre 4 rfl (by kernel_rfl) (by kernel_rfl) (by kernel_rfl) (fun _ _ _ _ h => h) rfl ?_; apply Exists.intro; refine ⟨fun v1 hv1 => ?_, ?_⟩; (· (go_simp; rfl)); simp only [Act.put, List.setIfInBounds_toArray, List.set_cons_zero, List.set_cons_succ]
                    refine anyR_take Later.pre 5 (.string (decB zb.length)) rfl (by kernel_rfl) (by kernel_rfl) (by kernel_rfl) (fun _ _ _ h => h) rfl (fun v1 hv1 => goes_call 44 #[.int .i64 (zb.length : Int)] (by go_simp) (rdigits_any zb.length (by omega) v1)) ?_
                    simp only [Act.put, List.setIfInBounds_toArray, List.set_cons_zero, List.set_cons_succ]
                    refine anyR_val Later.pre 6 rfl (by kernel_rfl) (by kernel_rfl) (by kernel_rfl) (fun _ _ _ _ h => h) rfl ?_; apply Exists.intro; refine ⟨fun v1 hv1 => ?_, ?_⟩; (· (go_simp; rfl)); simp only [Act.put, List.setIfInBounds_toArray, List.set_cons_zero, List.set_cons_succ]
                    clear qH qM
                    refine anyR_done (by kernel_rfl) (fun V9 hV9 => ?_)
                    have L9 := lq.trans (l3.trans (hV0.trans hV9))
                    rw [str_beq y (decB zb.length)]
                    generalize eqS y (decB zb.length) = b4 at *
                    cases b4 with
                    | false =>
                      have HVV := hide (HNO.out rfl)
                      clear HNO HYE
                      go_wp2_with fail
                      go_ret
                      exact ⟨by rw [HVV.out]; rfl, L2.trans L9⟩
                    | true =>
                      have HYY := hide (HYE.out rfl)
                      clear HNO HYE
                      go_wp2_with fail
                      go_roundw
                      case rel => exact ⟨k + 1, by omega, by go_num, by rw [HCT.out]; go_num, L9, HYY⟩
                      case measure => simp [intOf]; omega
      · obtain rfl : k = hs.length := by omega
        have hnl : ¬ ((hs.length : Nat) : Int) < (hs.length : Int) := by omega
        rw [List.take_length] at hal ⊢
        generalize hs.countP (fun h => swV h.1 clN) = c at *
        have hq : ((c : Int) == 1) = decide (c = 1) := by by_cases h : c = 1 <;> simp [h]; omega
        have HVV : Hid (r = ((c : Int) == 1)) := by show _ = _; rw [HR3.out, hal.out, hq]; rfl
        clear hq HR3
        go_wp2_with fail
        go_ret
        exact ⟨by rw [HVV.out]; rfl, L2.trans lr⟩
end Go.Proofs.YtehdgndbloaljaaDoor

/- The law's ref: a message as the document's. -/
namespace Go.Proofs.YtehdgndbloaljaaDoor
open Go.RowKit Go.Shelf
set_option maxRecDepth 100000
set_option linter.unusedVariables false
set_option linter.unusedSimpArgs false

theorem info_hdrR : (Tryd.prog.info? 64).map (fun i => (i.zero, i.size, i.bytes)) = some (some (.agg #[.string ⟨#[]⟩, .string ⟨#[]⟩]), 2, 32) := by kernel_rfl
theorem ownR_rd {base : Nat} {W : World} {v : Value} {l : List Hr} {T : TypeId} (h : W.ownsRow base T 2 v l.length (hrs l)) : RdM W.heap.size W v l := by
  obtain ⟨h1, ⟨rfl, h0⟩ | ⟨g, cap, cur, rfl, hg, hh, hl, hm, hs, hc⟩⟩ := h
  · have : l = [] := List.eq_nil_of_length_eq_zero h0
    subst this
    exact .inl ⟨none, 0, rfl, rfl, by omega, fun _ => rfl⟩
  · by_cases hn : l = []
    · subst hn
      exact .inl ⟨_, cap, rfl, rfl, by simpa [maxLen] using hm, fun h => by cases h⟩
    · refine .inr ⟨g, 0, cap, rfl, hn, hl, by simpa [maxLen] using hm, (Array.getElem?_eq_some_iff.1 hh).1, fun j hj i hi => ?_⟩
      rw [Nat.zero_add, block_cell hh, ← hrs_at l j i hj hi, ← hc, List.getElem?_take_of_lt (by omega)]
      simp

set_option maxRecDepth 100000 in
set_option maxHeartbeats 8000000 in
theorem ref_any (st : ByteArray) (sv sb : Value) (hs : List Hr) (zb : List Int) (w : World) (hH : RdM w.heap.size w sv hs) (hB : Rd w.heap.size w sb zb) (hhl : hs.length ≤ 100) :
    Calls Tryd.prog 16 #[.agg #[.string st, sv, sb]] w fun e w' => Later w w' ∧ ∃ vh, e = .returned (.agg #[.string st, vh, sb]) ∧ w'.ownsRow w.heap.size 64 2 vh hs.length (hrs hs) := by
  obtain ⟨sa, scp, rfl, hsc1, hsc2⟩ := hH.slice
  obtain ⟨ba, bcp, rfl, hbc1, hbc2⟩ := hB.slice
  have hb4 : Later w (((w.alloc (.cells #[.string st, .slice sa hs.length scp, .slice ba zb.length bcp] 25)).alloc (.cells #[.string ⟨#[]⟩, .slice none 0 0, .slice none 0 0] 31)).alloc (.cells #[.string st, .slice none 0 0, .slice ba zb.length bcp] 31)) := (((Below.refl _ _).alloc (Nat.le_refl _) _).alloc (by simp) _).alloc (by simp <;> omega) _
  have c0 : ((w.alloc (.cells #[.string st, .slice sa hs.length scp, .slice ba zb.length bcp] 25)).alloc (.cells #[.string ⟨#[]⟩, .slice none 0 0, .slice none 0 0] 31)).heap[w.heap.size]? = some (.cells #[.string st, .slice sa hs.length scp, .slice ba zb.length bcp] 25 (0, 0)) := (Below.heap_alloc _ _ _ (by simp)).trans (heap_alloc_new w _)
  have c1 : ((w.alloc (.cells #[.string st, .slice sa hs.length scp, .slice ba zb.length bcp] 25)).alloc (.cells #[.string ⟨#[]⟩, .slice none 0 0, .slice none 0 0] 31)).heap[w.heap.size + 1]? = some (.cells #[.string ⟨#[]⟩, .slice none 0 0, .slice none 0 0] 31 (0, 0)) := by
    have := heap_alloc_new (w.alloc (.cells #[.string st, .slice sa hs.length scp, .slice ba zb.length bcp] 25)) (.cells #[.string ⟨#[]⟩, .slice none 0 0, .slice none 0 0] 31)
    rw [World.size_alloc] at this
    exact this
  have hs4 : ((w.alloc (.cells #[.string st, .slice sa hs.length scp, .slice ba zb.length bcp] 25)).alloc (.cells #[.string ⟨#[]⟩, .slice none 0 0, .slice none 0 0] 31)).heap.size = w.heap.size + 1 + 1 := by simp
  have hb3 : Later w ((w.alloc (.cells #[.string st, .slice sa hs.length scp, .slice ba zb.length bcp] 25)).alloc (.cells #[.string ⟨#[]⟩, .slice none 0 0, .slice none 0 0] 31)) := ((Below.refl _ _).alloc (Nat.le_refl _) _).alloc (by simp) _
  have C0 := hide c0
  have C1 := hide c1
  have HS4 := hide hs4
  clear c0 c1 hs4 hb4
  go_enter Tryd.func16, Tryd.ntmps16
  go_upto_region 1 with fail
  generalize (w.alloc (.cells #[.string st, .slice sa hs.length scp, .slice ba zb.length bcp] 25)).alloc (.cells #[.string ⟨#[]⟩, .slice none 0 0, .slice none 0 0] 31) = w4 at *
  generalize hgc : w.heap.size = gc at C0 C1 HS4 ⊢
  have k0 := block_cell C0.out
  have la := later_allocR w4 (.cells #[.string st, .slice none 0 0, .slice ba zb.length bcp] 31)
  have C2 := hide (heap_alloc_new w4 (.cells #[.string st, .slice none 0 0, .slice ba zb.length bcp] 31))
  go_upto_region 2 with fail
  clear k0
  have D0 := hide (later_keep la C0.out)
  have D1 := hide (later_keep la C1.out)
  have LW : Later w (w4.alloc (.cells #[.string st, .slice none 0 0, .slice ba zb.length bcp] 31)) := Later.trans hb3 la
  have hs5 : w4.heap.size = gc + 1 + 1 := HS4.out
  rw [hs5] at C2 ⊢
  change Code.wp _ _ _ _ (w4.alloc (.cells #[.string st, .slice none 0 0, .slice ba zb.length bcp] 31))
  generalize w4.alloc (.cells #[.string st, .slice none 0 0, .slice ba zb.length bcp] 31) = W at *
  have LWg : Below gc w W := hgc ▸ LW
  go_upto_region 3 with fail
  have HH := hide (hH.below (hgc ▸ LWg : Below w.heap.size w W))
  rw [hgc] at HH
  have hgcW : gc + 3 ≤ W.heap.size := by have := (Array.getElem?_eq_some_iff.1 C2.out).1; omega
  go_loopw [4] (fun iv wr => ∃ (k : Nat) (vh : Value), k ≤ hs.length ∧ iv = .int .i64 (k : Int) ∧ Below gc W wr ∧ Hid (wr.heap[gc]? = some (.cells #[.string st, .slice sa hs.length scp, .slice ba zb.length bcp] 25 (0, 0))) ∧ Hid (wr.heap[gc + 1]? = some (.cells #[.string ⟨#[]⟩, .slice none 0 0, .slice none 0 0] 31 (0, 0))) ∧ Hid (wr.heap[gc + 1 + 1]? = some (.cells #[.string st, vh, .slice ba zb.length bcp] 31 (0, 0))) ∧ Hid (wr.ownsRow gc 64 2 vh k (hrs (hs.take k)))) (fun iv _ => hs.length - (intOf iv).toNat)
  case atStart => exact ⟨0, .slice none 0 0, by omega, rfl, Below.refl _ _, D0, D1, C2, rfl, .inl ⟨rfl, rfl⟩⟩
  case round =>
    obtain ⟨k, vh, hk, rfl, hbr, E0, E1, EN, EH⟩ := hrel
    have hbs := hbr.size
    have k0 := block_cell E0.out
    obtain ⟨ha, hcp, rfl⟩ := owns_form EH.out
    by_cases hlt : k < hs.length
    · have hlt' : (k : Int) < (hs.length : Int) := by omega
      have hlt2 : (k : Int) < 200 := by omega
      obtain ⟨b, off, cp, e, _, _, hbn, hcs⟩ := ((HH.out).below hbr).cells (by omega)
      cases e
      have d0 := hcs k hlt 0 (by omega)
      have d1 := hcs k hlt 1 (by omega)
      have HTK : Hid (hs.take (k + 1) = hs.take k ++ [hs[k]]) := by show _ = _; rw [← List.take_append_getElem hlt]
      clear hcs
      generalize hs[k] = hr at *
      obtain ⟨n1, n2⟩ := hr
      simp only [hrc, List.getElem?_cons_zero, List.getElem?_cons_succ, Nat.add_zero] at d0 d1
      go_upto_region 5 with fail
      clear k0
      refine wp_calmS ?_
      refine anyU_begin (R1 := Later) (R2 := fun _ _ => True) (D := [16, 18]) 19 rfl (by kernel_rfl) ?_
      have ld : Later wr wr.drew := Later.drew wr
      generalize wr.drew = Wd at *
      have qM : ∀ v1, Later Wd v1 → ∀ j, v1.cell? ⟨gc, j, none⟩ = #[.string st, .slice (some ⟨b, off, none⟩) hs.length scp, .slice ba zb.length bcp][j]? := fun v1 hv => block_cell (later_keep (ld.trans hv) E0.out)
      have qN : ∀ v1, Later Wd v1 → ∀ j, v1.cell? ⟨gc + 1 + 1, j, none⟩ = #[.string st, .slice ha k hcp, .slice ba zb.length bcp][j]? := fun v1 hv => block_cell (later_keep (ld.trans hv) EN.out)
      have q0 : ∀ v, Later Wd v → v.cell? ⟨b, off + k * 2, none⟩ = some (.string n1) := fun v hv => (ld.trans hv).cell d0
      have q1 : ∀ v, Later Wd v → v.cell? ⟨b, off + k * 2 + 1, none⟩ = some (.string n2) := fun v hv => (ld.trans hv).cell d1
      clear d0 d1
      refine anyU_val Later.pre 0 [1, 16, 18] rfl (by rfl) (by rfl) (by kernel_rfl) (by kernel_rfl) (by kernel_rfl) (by kernel_rfl) (by kernel_rfl) (fun _ _ _ _ h => by cases h.1) (by rfl) ?_; apply Exists.intro; refine ⟨fun v1 hv1 => ?_, ?_⟩; (· (go_simp; rfl)); simp only [Act.put, List.setIfInBounds_toArray, List.set_cons_zero, List.set_cons_succ]
      refine anyU_val Later.pre 1 [16, 18] rfl (by rfl) (by rfl) (by kernel_rfl) (by kernel_rfl) (by kernel_rfl) (by kernel_rfl) (by kernel_rfl) (fun _ _ _ _ h => by cases h.1) (by rfl) ?_; apply Exists.intro; refine ⟨fun v1 hv1 => ?_, ?_⟩; (· (go_simp; rfl)); simp only [Act.put, List.setIfInBounds_toArray, List.set_cons_zero, List.set_cons_succ]
      refine anyU_val Later.pre 2 [3, 5, 6, 7, 14, 15, 16, 18] rfl (by rfl) (by rfl) (by kernel_rfl) (by kernel_rfl) (by kernel_rfl) (by kernel_rfl) (by kernel_rfl) (fun _ _ _ _ h => by cases h.1) (by rfl) ?_; apply Exists.intro; refine ⟨fun v1 hv1 => ?_, ?_⟩; (· (go_simp; rfl)); simp only [Act.put, List.setIfInBounds_toArray, List.set_cons_zero, List.set_cons_succ]
      refine anyU_val Later.pre 3 [5, 6, 7, 14, 15, 16, 18] rfl (by rfl) (by rfl) (by kernel_rfl) (by kernel_rfl) (by kernel_rfl) (by kernel_rfl) (by kernel_rfl) (fun _ _ _ _ h => by cases h.1) (by rfl) ?_; apply Exists.intro; refine ⟨fun v1 hv1 => ?_, ?_⟩; (· (go_simp; rfl)); simp only [Act.put, List.setIfInBounds_toArray, List.set_cons_zero, List.set_cons_succ]
      refine anyU_val Later.pre 4 [5, 6, 7, 14, 15, 16, 18] rfl (by rfl) (by rfl) (by kernel_rfl) (by kernel_rfl) (by kernel_rfl) (by kernel_rfl) (by kernel_rfl) (fun _ _ _ _ h => by cases h.1) (by rfl) ?_; apply Exists.intro; refine ⟨fun v1 hv1 => ?_, ?_⟩; (· (go_simp; rfl)); simp only [Act.put, List.setIfInBounds_toArray, List.set_cons_zero, List.set_cons_succ]
      refine anyU_val Later.pre 5 [6, 7, 14, 15, 16, 18] rfl (by rfl) (by rfl) (by kernel_rfl) (by kernel_rfl) (by kernel_rfl) (by kernel_rfl) (by kernel_rfl) (fun _ _ _ _ h => by cases h.1) (by rfl) ?_; apply Exists.intro; refine ⟨fun v1 hv1 => ?_, ?_⟩; (· (go_simp; rfl)); simp only [Act.put, List.setIfInBounds_toArray, List.set_cons_zero, List.set_cons_succ]
      refine anyU_val Later.pre 6 [7, 14, 15, 16, 18] rfl (by rfl) (by rfl) (by kernel_rfl) (by kernel_rfl) (by kernel_rfl) (by kernel_rfl) (by kernel_rfl) (fun _ _ _ _ h => by cases h.1) (by rfl) ?_; apply Exists.intro; refine ⟨fun v1 hv1 => ?_, ?_⟩; (· (go_simp; rfl)); simp only [Act.put, List.setIfInBounds_toArray, List.set_cons_zero, List.set_cons_succ]
      refine anyU_val Later.pre 7 [14, 15, 16, 18] rfl (by rfl) (by rfl) (by kernel_rfl) (by kernel_rfl) (by kernel_rfl) (by kernel_rfl) (by kernel_rfl) (fun _ _ _ _ h => by cases h.1) (by rfl) ?_; apply Exists.intro; refine ⟨fun v1 hv1 => ?_, ?_⟩; (· (go_simp; rfl)); simp only [Act.put, List.setIfInBounds_toArray, List.set_cons_zero, List.set_cons_succ]
      refine anyU_val Later.pre 8 [9, 11, 12, 13, 14, 15, 16, 18] rfl (by rfl) (by rfl) (by kernel_rfl) (by kernel_rfl) (by kernel_rfl) (by kernel_rfl) (by kernel_rfl) (fun _ _ _ _ h => by cases h.1) (by rfl) ?_; apply Exists.intro; refine ⟨fun v1 hv1 => ?_, ?_⟩; (· (go_simp; rfl)); simp only [Act.put, List.setIfInBounds_toArray, List.set_cons_zero, List.set_cons_succ]
      refine anyU_val Later.pre 9 [11, 12, 13, 14, 15, 16, 18] rfl (by rfl) (by rfl) (by kernel_rfl) (by kernel_rfl) (by kernel_rfl) (by kernel_rfl) (by kernel_rfl) (fun _ _ _ _ h => by cases h.1) (by rfl) ?_; apply Exists.intro; refine ⟨fun v1 hv1 => ?_, ?_⟩; (· (go_simp; rfl)); simp only [Act.put, List.setIfInBounds_toArray, List.set_cons_zero, List.set_cons_succ]
      refine anyU_val Later.pre 10 [11, 12, 13, 14, 15, 16, 18] rfl (by rfl) (by rfl) (by kernel_rfl) (by kernel_rfl) (by kernel_rfl) (by kernel_rfl) (by kernel_rfl) (fun _ _ _ _ h => by cases h.1) (by rfl) ?_; apply Exists.intro; refine ⟨fun v1 hv1 => ?_, ?_⟩; (· (go_simp; rfl)); simp only [Act.put, List.setIfInBounds_toArray, List.set_cons_zero, List.set_cons_succ]
      refine anyU_val Later.pre 11 [12, 13, 14, 15, 16, 18] rfl (by rfl) (by rfl) (by kernel_rfl) (by kernel_rfl) (by kernel_rfl) (by kernel_rfl) (by kernel_rfl) (fun _ _ _ _ h => by cases h.1) (by rfl) ?_; apply Exists.intro; refine ⟨fun v1 hv1 => ?_, ?_⟩; (· (go_simp; rfl)); simp only [Act.put, List.setIfInBounds_toArray, List.set_cons_zero, List.set_cons_succ]
      refine anyU_val Later.pre 12 [13, 14, 15, 16, 18] rfl (by rfl) (by rfl) (by kernel_rfl) (by kernel_rfl) (by kernel_rfl) (by kernel_rfl) (by kernel_rfl) (fun _ _ _ _ h => by cases h.1) (by rfl) ?_; apply Exists.intro; refine ⟨fun v1 hv1 => ?_, ?_⟩; (· (go_simp; rfl)); simp only [Act.put, List.setIfInBounds_toArray, List.set_cons_zero, List.set_cons_succ]
      refine anyU_val Later.pre 13 [14, 15, 16, 18] rfl (by rfl) (by rfl) (by kernel_rfl) (by kernel_rfl) (by kernel_rfl) (by kernel_rfl) (by kernel_rfl) (fun _ _ _ _ h => by cases h.1) (by rfl) ?_; apply Exists.intro; refine ⟨fun v1 hv1 => ?_, ?_⟩; (· (go_simp; rfl)); simp only [Act.put, List.setIfInBounds_toArray, List.set_cons_zero, List.set_cons_succ]
      refine anyU_val Later.pre 14 [15, 16, 18] rfl (by rfl) (by rfl) (by kernel_rfl) (by kernel_rfl) (by kernel_rfl) (by kernel_rfl) (by kernel_rfl) (fun _ _ _ _ h => by cases h.1) (by rfl) ?_; apply Exists.intro; refine ⟨fun v1 hv1 => ?_, ?_⟩; (· (go_simp; rfl)); simp only [Act.put, List.setIfInBounds_toArray, List.set_cons_zero, List.set_cons_succ]
      clear qM qN q0 q1
      refine anyU_one 15 rfl (by kernel_rfl) (by rfl) ?_
      have l2 := later_allocR Wd (.cells #[.string n1, .string n2] 64)
      have HNW := hide (heap_alloc_new Wd (.cells #[.string n1, .string n2] 64))
      unfold Oper.wp
      go_simp
      refine ⟨Rj_out (by rfl) l2, ?_⟩
      change wpAnyU _ _ _ _ _ _ _ _ _ _ (Wd.alloc (.cells #[.string n1, .string n2] 64))
      generalize Wd.alloc (.cells #[.string n1, .string n2] 64) = W5 at *
      generalize Wd.heap.size = gw at *
      have LL := ld.trans l2
      have EH5 := ownsS_ct EH.out (CTs.of LL)
      have EN5 := later_keep LL EN.out
      have E05 := later_keep LL E0.out
      have E15 := later_keep LL E1.out
      have hnk := block_cell HNW.out
      obtain ⟨i0, hi0, hz0, hz1, hz2⟩ := info_partsS info_hdrR
      have hgc5 : gc ≤ W5.heap.size := by have := LL.size; omega
      obtain ⟨v', W2, hrun, hrow, hg, _⟩ := run_append_own (P := Tryd.prog) W5 gc 29 29 64 i0 (.agg #[.string ⟨#[]⟩, .string ⟨#[]⟩]) 2 32 Tryd.underlying29 hi0 hz0 hz1 hz2 rfl (by decide) (.slice ha k hcp) k (hrs (hs.take k)) EH5 ⟨gw, 0, none⟩ 1 1 [.string n1, .string n2] rfl
        (fun j u hj => by
          rw [show (⟨gw, 0, none⟩ : Addr).add j = ⟨gw, 0 + j, none⟩ from by unfold Addr.add; split <;> simp_all]
          rw [Nat.zero_add, hnk j, ← hj]; simp)
        (by intro u hu; simp at hu; rcases hu with rfl | rfl <;> rfl) (by unfold maxLen; omega) (by omega) hgc5
      clear hnk
      refine anyU_one 16 rfl (by kernel_rfl) (by rfl) ?_
      refine wp_app (.tmp 22) (.tmp 36) 29 rfl _ _ rfl rfl v' W2 hrun ?_
      refine ⟨Rj_in (by rfl) trivial, ?_⟩
      simp only [Act.put, List.setIfInBounds_toArray, List.set_cons_zero, List.set_cons_succ]
      obtain ⟨a2, cp2, rfl⟩ := owns_form hrow
      have EN2 := keep_row EH5 hg EN5 (.inl fun cur f e => by cases e)
      have E02 := keep_row EH5 hg E05 (.inl fun cur f e => by cases e)
      have E12 := keep_row EH5 hg E15 (.inl fun cur f e => by cases e)
      refine anyU_one 17 rfl (by kernel_rfl) (by rfl) ?_
      refine wp_value (w' := W2) (.pointer (some ⟨gc + 1 + 1, 1, none⟩)) (by go_simp) ?_
      refine ⟨Rj_out (by rfl) (Later.refl _), ?_⟩
      simp only [Act.put, List.setIfInBounds_toArray, List.set_cons_zero, List.set_cons_succ]
      have k2 := block_cell EN2
      have f2 := block_frozen EN2
      refine anyU_one 18 rfl (by kernel_rfl) (by rfl) ?_
      unfold Oper.wp
      go_simp
      refine ⟨Rj_in (by rfl) trivial, ?_⟩
      clear k2 f2
      refine anyU_done (by kernel_rfl) ?_
      refine ⟨rfl, ?_⟩
      have EN8 := heap_set1 EN2 1 (.slice a2 (k + 1) cp2)
      have E08 := hsetS_ne (j := 1) (v := .slice a2 (k + 1) cp2) E02 (m := gc + 1 + 1) (by omega)
      have E18 := hsetS_ne (j := 1) (v := .slice a2 (k + 1) cp2) E12 (m := gc + 1 + 1) (by omega)
      have EH8 := own_set hrow EN2 (by decide) 1 (.slice a2 (k + 1) cp2)
      have B8 : Below gc wr (W2.setCell ⟨gc + 1 + 1, 1, none⟩ (.slice a2 (k + 1) cp2)) := ⟨hg.os.trans LL.os, hg.tape.trans LL.tape, hg.output.trans LL.output, by have := LL.size; have := hg.size; simp; omega, fun i hi => by
        cases hh : wr.heap[i]? with
        | none => have := Array.getElem?_eq_none_iff.1 hh; omega
        | some o => exact hsetS_ne (keep_row EH5 hg (later_keep LL hh) (.inr hi)) (by omega)⟩
      have EH9 : (W2.setCell ⟨gc + 1 + 1, 1, none⟩ (.slice a2 (k + 1) cp2)).ownsRow gc 64 2 (.slice a2 (k + 1) cp2) (k + 1) (hrs (hs.take (k + 1))) := by
        rw [HTK.out, hrs_snoc]
        exact EH8
      have HE8 := hide E08; have HF8 := hide E18; have HG8 := hide EN8; have HH9 := hide EH9; have HBL := hide (hbr.trans B8)
      clear E08 E18 EN8 EH9 EH8 B8 hrow E12 E02 EN2 hg hrun E15 E05 EN5 EH5
      generalize W2.setCell ⟨gc + 1 + 1, 1, none⟩ (.slice a2 (k + 1) cp2) = V8 at *
      go_wp2_with fail
      go_roundw
      case rel => exact ⟨k + 1, .slice a2 (k + 1) cp2, by omega, by go_num, HBL.out, HE8, HF8, HG8, HH9⟩
      case measure => simp [intOf]; omega
    · have hnl : ¬ (k : Int) < (hs.length : Int) := by omega
      have hkk : k = hs.length := by omega
      have HH9 : Hid (wr.ownsRow gc 64 2 (.slice ha k hcp) hs.length (hrs hs)) := by
        have := EH.out
        rw [hkk, List.take_length] at this
        rw [hkk]
        exact this
      clear hkk
      have k2 := block_cell EN.out
      have k4 := block_cell E1.out
      have f4 := block_frozen E1.out
      go_wp2_with fail
      generalize hV : (((wr.setCell ⟨gc + 1, 0, none⟩ _).setCell ⟨gc + 1, 1, none⟩ _).setCell ⟨gc + 1, 2, none⟩ _) = V8
      have hV9 : V8 = putRow wr (gc + 1) 0 [.string st, .slice ha k hcp, .slice ba zb.length bcp] := hV.symm
      have hb8 : But (fun b => b = gc + 1) wr V8 := by rw [hV9]; exact putRow_but (E := fun b => b = gc + 1) (n := gc + 1) rfl _ _ _ _ (But.refl _ _)
      have p8 := putRow_all [.string st, .slice ha k hcp, .slice ba zb.length bcp] E1.out rfl
      rw [← hV9] at p8
      clear hV hV9
      have P8 := block_cell p8
      have LWr : Below gc w wr := LWg.trans hbr
      have hw8 : Below gc w V8 := LWr.trans (hb8.below (by omega) (fun k h e => by omega))
      have hr8 := own_but (base' := gc) HH9.out hb8 E1.out (by decide) (Nat.le_refl _)
      exact bodyPost_ret (v := .agg #[.string st, .slice ha k hcp, .slice ba zb.length bcp]) (by simp [results, Tryd.results16, go_sem, P8]) rfl ⟨(by show Below w.heap.size w V8; rw [hgc]; exact hw8), _, rfl, hr8⟩
end Go.Proofs.YtehdgndbloaljaaDoor

/- Package sip: split. -/
namespace Go.Proofs.YtehdgndbloaljaaDoor
open Go.RowKit Go.Shelf
set_option maxRecDepth 100000
attribute [local go_sem] Oper.semAt_some
set_option linter.unusedVariables false
set_option linter.unusedSimpArgs false

theorem OwG.ct {base : Nat} {A B : World} {v : Value} {ys : List Int} (h : OwG base A v ys) (k : CTs A B) : OwG base B v ys := let ⟨g, cap, cur, fz, e, hb, hh, r⟩ := h; ⟨g, cap, cur, fz, e, hb, k.2 _ _ hh rfl, r⟩
theorem OwG.mono {base base' : Nat} {A : World} {v : Value} {ys : List Int} (h : OwG base A v ys) (k : base' ≤ base) : OwG base' A v ys := let ⟨g, cap, cur, fz, e, hb, r⟩ := h; ⟨g, cap, cur, fz, e, Nat.le_trans k hb, r⟩

theorem own_butT {base : Nat} {E : Nat → Prop} {W W' : World} {e : TypeId} {size : Nat} {v : Value} {n : Nat} {xs : List Value} (h : W.ownsRow base e size v n xs) (hb : But E W W') (hE : ∀ g cur fz, W.heap[g]? = some (.cells cur e fz) → ¬ E g) : W'.ownsRow base e size v n xs := by
  obtain ⟨h1, h2 | ⟨g', cap, cur', hv, hg', hh, r⟩⟩ := h
  · exact ⟨h1, .inl h2⟩
  · exact ⟨h1, .inr ⟨g', cap, cur', hv, hg', (hb.block g' (Array.getElem?_eq_some_iff.1 hh).1 (hE g' cur' _ hh)).trans hh, r⟩⟩
/-- What split keeps while it goes along the lines. -/
def PS14 (g gx base : Nat) (st rest : ByteArray) (pre : List (ByteArray × ByteArray)) (W : World) : Prop :=
  W.heap[g]? = some (.cells #[.string ⟨#[]⟩, .slice none 0 0, .slice none 0 0] 25 (0, 0)) ∧ W.heap[g + 1]? = some (.cells #[.bool false] 4 (0, 0)) ∧ W.heap[gx]? = some (.cells #[.string rest] 9 (0, 0)) ∧
  (∃ vh hs, W.heap[gx + 1]? = some (.cells #[.string st, vh, .slice none 0 0] 25 (0, 0)) ∧ W.ownsRow base 53 2 vh hs.length (hrs hs) ∧ hs.length = pre.length ∧ Hid (spT rest = ppd hs (spT (itZ pre.length rest)))) ∧
  W.heap[gx + 1 + 1]? = some (.cells #[.int .i64 (tkn pre : Nat)] 3 (0, 0))
theorem PS14.ct {g gx base : Nat} {st rest : ByteArray} {pre : List (ByteArray × ByteArray)} {A B : World} (h : PS14 g gx base st rest pre A) (k : CTs A B) : PS14 g gx base st rest pre B := by
  obtain ⟨h1, h2, h3, ⟨vh, hs, h4, h5, h6⟩, h7⟩ := h
  exact ⟨k.2 _ _ h1 rfl, k.2 _ _ h2 rfl, k.2 _ _ h3 rfl, ⟨vh, hs, k.2 _ _ h4 rfl, ownsS_ct h5 k, h6⟩, k.2 _ _ h7 rfl⟩
/-- What it leaves. -/
def RS14 (g base : Nat) (st rest : ByteArray) (W : World) : Prop :=
  (∃ vh vb hs b, W.heap[g]? = some (.cells #[.string st, vh, vb] 25 (0, 0)) ∧ W.heap[g + 1]? = some (.cells #[.bool true] 4 (0, 0)) ∧ Hid (spT rest = some (hs, b)) ∧ W.ownsRow base 53 2 vh hs.length (hrs hs) ∧ OwG base W vb (nmsB b)) ∨
  (W.heap[g]? = some (.cells #[.string ⟨#[]⟩, .slice none 0 0, .slice none 0 0] 25 (0, 0)) ∧ W.heap[g + 1]? = some (.cells #[.bool false] 4 (0, 0)) ∧ Hid (spT rest = none))
theorem RS14.ct {g base : Nat} {st rest : ByteArray} {A B : World} (h : RS14 g base st rest A) (k : CTs A B) : RS14 g base st rest B := by
  rcases h with ⟨vh, vb, hs, b, h1, h2, h3, h4, h5⟩ | ⟨h1, h2, h3⟩
  · exact .inl ⟨vh, vb, hs, b, k.2 _ _ h1 rfl, k.2 _ _ h2 rfl, h3, ownsS_ct h4 k, h5.ct k⟩
  · exact .inr ⟨k.2 _ _ h1 rfl, k.2 _ _ h2 rfl, h3⟩
theorem keepNe {W : World} {i j n : Nat} {o : Obj} {cur : Array Value} {t : TypeId} {f : Nat × Nat} (h : W.heap[i]? = some o) (hc : o.isCells = false ∨ i < n) (hj : W.heap[j]? = some (.cells cur t f)) (hn : n ≤ j) : i ≠ j := fun e => by
  subst e
  rw [h] at hj
  cases hj
  rcases hc with h | h
  · cases h
  · omega
theorem OwG.butT {base : Nat} {E : Nat → Prop} {W W' : World} {v : Value} {ys : List Int} (h : OwG base W v ys) (hb : But E W W') (hE : ∀ g cur fz, W.heap[g]? = some (.cells cur 5 fz) → ¬ E g) : OwG base W' v ys := by
  obtain ⟨g, cap, cur, fz, e, hbg, hh, r⟩ := h
  exact ⟨g, cap, cur, fz, e, hbg, (hb.block g (Array.getElem?_eq_some_iff.1 hh).1 (hE g cur fz hh)).trans hh, r⟩
theorem OwG.setT {base : Nat} {W : World} {v : Value} {ys : List Int} (h : OwG base W v ys) {g : Nat} {cur : Array Value} {t : TypeId} (hg : W.heap[g]? = some (.cells cur t (0, 0))) (ht : t ≠ 5) (j : Nat) (u : Value) : OwG base (W.setCell ⟨g, j, none⟩ u) v ys := by
  obtain ⟨g', cap, cur', fz, e, hbg, hh, r⟩ := h
  exact ⟨g', cap, cur', fz, e, hbg, hsetS_ne hh (fun e => by subst e; rw [hg] at hh; cases hh; exact ht rfl), r⟩
/-- The results stored: three cells of a message, and a bool. -/
theorem res14 {W : World} {g n : Nat} {c0 c1 : Array Value} (h0 : W.heap[g]? = some (.cells c0 25 (0, 0))) (hc0 : c0.size = 3) (h1 : W.heap[g + 1]? = some (.cells c1 4 (0, 0))) (hc1 : c1.size = 1) (a b c d : Value) (hn : n ≤ g) (hnW : n ≤ W.heap.size) :
    ((((W.setCell ⟨g, 0, none⟩ a).setCell ⟨g, 1, none⟩ b).setCell ⟨g, 2, none⟩ c).setCell ⟨g + 1, 0, none⟩ d).heap[g]? = some (.cells #[a, b, c] 25 (0, 0)) ∧
    ((((W.setCell ⟨g, 0, none⟩ a).setCell ⟨g, 1, none⟩ b).setCell ⟨g, 2, none⟩ c).setCell ⟨g + 1, 0, none⟩ d).heap[g + 1]? = some (.cells #[d] 4 (0, 0)) ∧
    Below n W ((((W.setCell ⟨g, 0, none⟩ a).setCell ⟨g, 1, none⟩ b).setCell ⟨g, 2, none⟩ c).setCell ⟨g + 1, 0, none⟩ d) ∧
    But (fun b => b = g ∨ b = g + 1) W ((((W.setCell ⟨g, 0, none⟩ a).setCell ⟨g, 1, none⟩ b).setCell ⟨g, 2, none⟩ c).setCell ⟨g + 1, 0, none⟩ d) := by
  have e1 : (((W.setCell ⟨g, 0, none⟩ a).setCell ⟨g, 1, none⟩ b).setCell ⟨g, 2, none⟩ c) = putRow W g 0 [a, b, c] := rfl
  have hb1 : But (fun b => b = g ∨ b = g + 1) W (putRow W g 0 [a, b, c]) := putRow_but (E := fun b => b = g ∨ b = g + 1) (n := g) (.inl rfl) _ _ _ _ (But.refl _ _)
  have p1 := putRow_all [a, b, c] h0 (by rw [hc0]; rfl)
  have hb1' : But (fun b => b = g) W (putRow W g 0 [a, b, c]) := putRow_but (E := fun b => b = g) (n := g) rfl _ _ _ _ (But.refl _ _)
  have p2 := (hb1'.block (g + 1) (Array.getElem?_eq_some_iff.1 h1).1 (by omega)).trans h1
  rw [e1]
  generalize putRow W g 0 [a, b, c] = V at *
  have e2 : V.setCell ⟨g + 1, 0, none⟩ d = putRow V (g + 1) 0 [d] := rfl
  have hb2 : But (fun b => b = g ∨ b = g + 1) W (putRow V (g + 1) 0 [d]) := putRow_but (E := fun b => b = g ∨ b = g + 1) (n := g + 1) (.inr rfl) _ _ _ _ hb1
  have p3 := putRow_all [d] p2 (by rw [hc1]; rfl)
  rw [e2]
  refine ⟨?_, p3, hb2.below hnW (fun k hk e => by omega), hb2⟩
  rw [← e2]
  exact hsetS_ne p1 (by omega)
/-- What split tells. -/
def SpQ (o : Option (ByteArray × List Hr × ByteArray)) (base : Nat) (W : World) (v : Value) : Prop :=
  (∃ st vh vb hs b, o = some (st, hs, b) ∧ v = .tuple #[.agg #[.string st, vh, vb], .bool true] ∧ W.ownsRow base 53 2 vh hs.length (hrs hs) ∧ OwG base W vb (nmsB b)) ∨
  (o = none ∧ v = .tuple #[.agg #[.string ⟨#[]⟩, .slice none 0 0, .slice none 0 0], .bool false])

set_option maxRecDepth 100000 in
set_option maxHeartbeats 8000000 in
theorem split_any (s : ByteArray) (w : World) (hM : TabM w) (hs : s.size ≤ 4096) :
    Calls Tryd.prog 20 #[.string s] w fun e w' => Later w w' ∧ ∃ v, e = .returned v ∧ SpQ (prM s) w.heap.size w' v := by
  have HP : Hid (prM s = (spT (cutZ s crB)).map fun r => (cutA s crB, r.1, r.2)) := rfl
  generalize prM s = pm at *
  have hcs := (cut_sizes s crB).1
  have HC := hide (fun W (h : TabM W) => cut_any s crB W h (by omega))
  generalize cutA s crB = st at *
  generalize cutZ s crB = rest at *
  generalize cutF s crB = cf at *
  have hb0 : Later w ((w.alloc (.cells #[.string ⟨#[]⟩, .slice none 0 0, .slice none 0 0] 25)).alloc (.cells #[.bool false] 4)) := ((Below.refl _ _).alloc (Nat.le_refl _) _).alloc (by simp) _
  have C0 : Hid (((w.alloc (.cells #[.string ⟨#[]⟩, .slice none 0 0, .slice none 0 0] 25)).alloc (.cells #[.bool false] 4)).heap[w.heap.size]? = some (.cells #[.string ⟨#[]⟩, .slice none 0 0, .slice none 0 0] 25)) := (Below.heap_alloc _ _ _ (by simp)).trans (heap_alloc_new w _)
  have C1 : Hid (((w.alloc (.cells #[.string ⟨#[]⟩, .slice none 0 0, .slice none 0 0] 25)).alloc (.cells #[.bool false] 4)).heap[w.heap.size + 1]? = some (.cells #[.bool false] 4)) := by
    have := heap_alloc_new (w.alloc (.cells #[.string ⟨#[]⟩, .slice none 0 0, .slice none 0 0] 25)) (.cells #[.bool false] 4)
    rw [World.size_alloc] at this
    exact this
  refine (callsIn_wide (n := 5)).1 ?_
  refine callsIn_of_wp_marks Tryd.func20 rfl trivial ?_ rfl
  simp only [Tryd.ntmps20, List.size_toArray, List.length_cons, List.length_nil, Nat.reduceAdd, Nat.reduceSub, Array.replicate_succ, Array.replicate_zero, List.push_toArray, List.append_toArray, List.nil_append, List.cons_append]
  gi_upto_region 1 with fail
  generalize (w.alloc (.cells #[.string ⟨#[]⟩, .slice none 0 0, .slice none 0 0] 25)).alloc (.cells #[.bool false] 4) = wa at *
  gi_wp2
  refine ⟨trivial, ?_⟩
  refine (callsIn_wide.2 (HC.out wa (hM.later hb0))).mono ?_
  rintro e w1 ⟨rfl, l1⟩
  have lw1 : Later w w1 := Later.trans hb0 l1
  have hsz1 := lw1.size
  have D0 := hide (later_keep l1 C0.out)
  have D1 := hide (later_keep l1 C1.out)
  have hgb : w.heap.size + 1 < w1.heap.size := (Array.getElem?_eq_some_iff.1 D1.out).1
  clear C0 C1 HC
  have hb4 : Later w1 ((((w1.alloc (.cells #[.string rest] 9)).alloc (.cells #[.string st, .slice none 0 0, .slice none 0 0] 25)).alloc (.cells #[.int .i64 0] 3)).alloc (.cells #[.string rest] 9)) := ((((Below.refl _ _).alloc (Nat.le_refl _) _).alloc (by simp) _).alloc (by simp <;> omega) _).alloc (by simp <;> omega) _
  have c0 : ((((w1.alloc (.cells #[.string rest] 9)).alloc (.cells #[.string st, .slice none 0 0, .slice none 0 0] 25)).alloc (.cells #[.int .i64 0] 3)).alloc (.cells #[.string rest] 9)).heap[w1.heap.size]? = some (.cells #[.string rest] 9) := (Below.heap_alloc _ _ _ (by simp <;> omega)).trans ((Below.heap_alloc _ _ _ (by simp <;> omega)).trans ((Below.heap_alloc _ _ _ (by simp)).trans (heap_alloc_new w1 _)))
  have c1 : ((((w1.alloc (.cells #[.string rest] 9)).alloc (.cells #[.string st, .slice none 0 0, .slice none 0 0] 25)).alloc (.cells #[.int .i64 0] 3)).alloc (.cells #[.string rest] 9)).heap[w1.heap.size + 1]? = some (.cells #[.string st, .slice none 0 0, .slice none 0 0] 25) := by
    have := heap_alloc_new (w1.alloc (.cells #[.string rest] 9)) (.cells #[.string st, .slice none 0 0, .slice none 0 0] 25)
    rw [World.size_alloc] at this
    exact (Below.heap_alloc _ _ _ (by simp <;> omega)).trans ((Below.heap_alloc _ _ _ (by simp)).trans this)
  have c2 : ((((w1.alloc (.cells #[.string rest] 9)).alloc (.cells #[.string st, .slice none 0 0, .slice none 0 0] 25)).alloc (.cells #[.int .i64 0] 3)).alloc (.cells #[.string rest] 9)).heap[w1.heap.size + 1 + 1]? = some (.cells #[.int .i64 0] 3) := by
    have := heap_alloc_new ((w1.alloc (.cells #[.string rest] 9)).alloc (.cells #[.string st, .slice none 0 0, .slice none 0 0] 25)) (.cells #[.int .i64 0] 3)
    simp only [World.size_alloc] at this
    exact (Below.heap_alloc _ _ _ (by simp)).trans this
  have c3 : ((((w1.alloc (.cells #[.string rest] 9)).alloc (.cells #[.string st, .slice none 0 0, .slice none 0 0] 25)).alloc (.cells #[.int .i64 0] 3)).alloc (.cells #[.string rest] 9)).heap[w1.heap.size + 1 + 1 + 1]? = some (.cells #[.string rest] 9) := by
    have := heap_alloc_new (((w1.alloc (.cells #[.string rest] 9)).alloc (.cells #[.string st, .slice none 0 0, .slice none 0 0] 25)).alloc (.cells #[.int .i64 0] 3)) (.cells #[.string rest] 9)
    simpa only [World.size_alloc] using this
  have hs4 : ((((w1.alloc (.cells #[.string rest] 9)).alloc (.cells #[.string st, .slice none 0 0, .slice none 0 0] 25)).alloc (.cells #[.int .i64 0] 3)).alloc (.cells #[.string rest] 9)).heap.size = w1.heap.size + 1 + 1 + 1 + 1 := by simp
  have E0 := hide c0; have E1 := hide c1; have E2 := hide c2; have E3 := hide c3; have HS4 := hide hs4
  clear c0 c1 c2 c3 hs4
  gi_wp2_with (refine ⟨trivial, ?_⟩; gi_at_call 28; refine (lines_in _ _ _).mono ?_; rintro e w' ⟨rfl, rfl⟩)
  generalize (((w1.alloc (.cells #[.string rest] 9)).alloc (.cells #[.string st, .slice none 0 0, .slice none 0 0] 25)).alloc (.cells #[.int .i64 0] 3)).alloc (.cells #[.string rest] 9) = w4 at *
  have hs4 : w4.heap.size = w1.heap.size + 1 + 1 + 1 + 1 := HS4.out
  have hlr : rest.size ≤ 4096 := by omega
  refine wpIn_rangeX (w := w4) rfl (by omega) (gf := 46) (lb := #[.pointer (some ⟨w1.heap.size + 1 + 1 + 1, 0, none⟩)]) rfl trivial (enters_of Tryd.func46 (by kernel_rfl) rfl)
    (lines_gen 4 (by omega) (w1.heap.size + 1 + 1 + 1) rest w w4 hM (by omega) (Later.trans lw1 hb4) (by omega) (block_cell E3.out 0))
    (fun h k => h.trans k) (fun W l o o' hl ho hc hw => belowK_b (w := w4) (by omega) W l o o' hl ho hc hw) (fun hA hL => hL.mono (by omega)) (fun _ _ _ _ h _ => h) (fun _ _ _ _ _ _ _ _ _ h => h) (fun _ => rfl)
    (fun pre W => PS14 w.heap.size w1.heap.size w.heap.size st rest pre W ∧ Below w.heap.size w W) (fun pre W => RS14 w.heap.size w.heap.size st rest W ∧ Below w.heap.size w W)
    (OwnFrom.and (fun s A B row hs hg hr => hs.ct (CTs.row hg (fun r e => (hr r e).2))) (ownFrom_below (Nat.le_refl _) (by omega)))
    (fun s A B h l => ⟨h.1.ct (CTs.of l), h.2.trans (l.mono h.2.size)⟩)
    (OwnFrom.and (fun s A B row hs hg hr => hs.ct (CTs.row hg (fun r e => (hr r e).2))) (ownFrom_below (Nat.le_refl _) (by omega)))
    ⟨⟨later_keep hb4 D0.out, later_keep hb4 D1.out, E0.out, ⟨.slice none 0 0, [], E1.out, ⟨rfl, .inl ⟨rfl, rfl⟩⟩, rfl, by (show _ = _); rw [ppd_nil]; rfl⟩, E2.out⟩, Later.trans lw1 hb4⟩
    (fun x a' W => a' = { tmps := #[.string s, undef, .pointer (some ⟨w.heap.size, 0, none⟩), .pointer (some ⟨w.heap.size + 1, 0, none⟩), .string st, .pointer (some ⟨w1.heap.size, 0, none⟩), .bool cf, .pointer (some ⟨w1.heap.size + 1, 0, none⟩), .pointer (some ⟨w1.heap.size + 1 + 1, 0, none⟩), .string x.1, .string x.2, undef, undef, undef, .tuple #[.string st, .string rest, .bool cf], .string s, .tuple #[.string st, .string rest, .bool cf], .string st, .string rest, .bool cf, .string st, .agg #[.string st, .slice none 0 0, .slice none 0 0], .string rest, .func (.func 46) #[] #[.pointer (some ⟨w1.heap.size + 1 + 1 + 1, 0, none⟩)], .string x.1, .string x.2, undef, undef, undef, undef, undef, undef, undef, undef, undef, undef, undef, undef, undef, undef, undef, undef, undef, undef, undef, undef, undef, undef, undef, undef, undef, undef, undef, undef, undef, undef, undef, undef, undef], defers := [] })
    (fun x a' W l o o' hl ho hc h => h) ?assign ?body ?done ?stop
  case assign =>
    rintro l pre x W K hsz _ hX hK
    dsimp only [encL]
    gi_wp2
    exact hK _ _ (Below.refl _ _) rfl
  case body =>
    rintro l pre x a' W ⟨⟨hr0, hr1, hx0, ⟨vh, hs', hxm, hOw, hhl, hsp⟩, hx2⟩, hbW⟩ hX rfl
    obtain ⟨ls, hls⟩ := hX
    obtain ⟨hz, hxe, -⟩ := lns_at pre x ls rest hls.symm
    have hls2 : lnsB rest = (pre ++ [x]) ++ ls := by rw [← hls]; simp
    have htl := (lns_tail (pre ++ [x]) ls rest hls2).2
    have HLF := hide (lns_left (pre ++ [x]) ls rest hls2)
    have hlen : (pre ++ [x]).length = pre.length + 1 := by simp
    rw [hlen] at HLF htl
    have hpl : pre.length ≤ 4096 := by
      have h1 := congrArg List.length hls
      have h2 := lnsF_len rest.size rest
      unfold lnsB at h1
      simp at h1
      omega
    have htk : tkn (pre ++ [x]) = tkn pre + (x.1.size + x.2.size) := tkn_snoc pre x
    have HEN : Hid (x.1.size = 0 → spT rest = some (hs', rest.extract (tkn (pre ++ [x])) rest.size)) := fun h => by
      rw [hsp.out, HLF.out, itZ_succ]
      exact ppd_end hs' hz (by rw [hxe] at h; exact h)
    have HBD : Hid (x.1.size ≠ 0 → cutF x.1 nmE = false → spT rest = none) := fun h h2 => by
      rw [hsp.out]
      rw [hxe] at h h2
      exact ppd_bad hs' hz h h2
    have HON : Hid (x.1.size ≠ 0 → cutF x.1 nmE = true → spT rest = ppd (hs' ++ [hdO x.1]) (spT (itZ (pre.length + 1) rest))) := fun h h2 => by
      rw [hsp.out, itZ_succ, hxe]
      rw [hxe] at h h2
      exact ppd_one hs' hz h h2
    have HTK : Hid (((tkn (pre ++ [x]) : Nat) : Int) = (tkn pre : Int) + ((x.1.size : Int) + (x.2.size : Int))) := by (show _ = _); rw [htk]; omega
    have hq : tkn (pre ++ [x]) ≤ rest.size := by omega
    clear hsp hls hls2 hxe hz HLF hlen
    obtain ⟨x1, x2⟩ := x
    simp only at HEN HBD HON HTK htk
    have hx1s : x1.size ≤ 4096 := by omega
    have hx2s : x2.size ≤ 4096 := by omega
    have htp : tkn pre ≤ 4096 := by omega
    generalize hqq : tkn (pre ++ [(x1, x2)]) = q at *
    have HQQ := hide hqq
    clear htk htl hqq
    obtain ⟨va, vc, rfl⟩ := owns_form hOw
    have hbsz := hbW.size
    have HOW := hide hOw
    have hh4 : hs'.length ≤ 4096 := by omega
    have HHL := hide hhl
    clear hOw hhl
    have k2 := block_cell hx2
    have f2 := block_frozen hx2
    have B1 : Hid (Below w.heap.size W (W.setCell ⟨w1.heap.size + 1 + 1, 0, none⟩ (.int .i64 (q : Int)))) := (Below.refl _ _).setCell (p := ⟨w1.heap.size + 1 + 1, 0, none⟩) (by (show w.heap.size ≤ w1.heap.size + 1 + 1); omega) _
    have X2 := hide (heap_set1 hx2 0 (.int .i64 (q : Int)))
    have hk1 : Hid (∀ i o, W.heap[i]? = some o → i ≠ w1.heap.size + 1 + 1 → (W.setCell ⟨w1.heap.size + 1 + 1, 0, none⟩ (.int .i64 (q : Int))).heap[i]? = some o) := fun i o h hne => hsetS_ne h hne
    have HO1 := hide (own_set HOW.out hx2 (by decide) 0 (.int .i64 (q : Int)))
    gi_upto_region 7 with fail
    rw [← HTK.out]
    clear k2 f2
    generalize W.setCell ⟨w1.heap.size + 1 + 1, 0, none⟩ (.int .i64 (q : Int)) = W1 at *
    have Y0 := hide (hk1.out _ _ hr0 (by omega))
    have Y1 := hide (hk1.out _ _ hr1 (by omega))
    have Z0 := hide (hk1.out _ _ hx0 (by omega))
    have Z1 := hide (hk1.out _ _ hxm (by omega))
    have hn1 : Hid (∀ i o, W.heap[i]? = some o → (o.isCells = false ∨ i < w.heap.size) → W1.heap[i]? = some o) := fun i o h hc => hk1.out i o h (keepNe h hc hx2 (by omega))
    have hsW1 : w.heap.size ≤ W1.heap.size := Nat.le_trans hbsz B1.out.size
    by_cases hz1 : x1.size = 0
    · have HSP := hide (HEN.out hz1)
      obtain rfl := str_empty x1 hz1
      clear HEN HBD HON hz1
      obtain ⟨gb, cb, w2, hcv, hG2, l2⟩ : ∃ g c w2, (convert 9 22 (.string (rest.extract q rest.size))).run Tryd.prog W1 = .ok (.slice (some ⟨g, 0, none⟩) (nmsB (rest.extract q rest.size)).length c) w2 ∧ OwG W1.heap.size w2 (.slice (some ⟨g, 0, none⟩) (nmsB (rest.extract q rest.size)).length c) (nmsB (rest.extract q rest.size)) ∧ Later W1 w2 := by
        have hG := conv_G W1 (rest.extract q rest.size) (by rw [ByteArray.size_extract]; omega)
        rw [← nmsB_len (rest.extract q rest.size)] at hG
        refine ⟨W1.heap.size, _, _, ?_, hG, conv_later W1 5 (rest.extract q rest.size)⟩
        rw [nmsB_len]
        exact Lib.run_convert_string_bytes W1 9 22 5 (rest.extract q rest.size) Tryd.underlying9 Tryd.underlying22 Tryd.underlying5
      have hq' : (q : Int) ≤ (rest.size : Int) := by omega
      have k0 := block_cell Z0.out
      have k2 := block_cell X2.out
      have Z1b := later_keep l2 Z1.out
      have k1b := block_cell Z1b
      have f1b := block_frozen Z1b
      have hnl0 : (nmsB (rest.extract q rest.size)).length ≤ 4096 := by rw [nmsB_len, ByteArray.size_extract]; omega
      generalize (nmsB (rest.extract q rest.size)).length = nl at *
      have Z13 := hide (heap_set1 Z1b 2 (.slice (some ⟨gb, 0, none⟩) nl cb))
      have hk3 : Hid (∀ i o, W1.heap[i]? = some o → i ≠ w1.heap.size + 1 → (w2.setCell ⟨w1.heap.size + 1, 2, none⟩ (.slice (some ⟨gb, 0, none⟩) nl cb)).heap[i]? = some o) := fun i o h hne => hsetS_ne (later_keep l2 h) hne
      have HO3 := hide (own_set (ownsS_ct HO1.out (CTs.of l2)) Z1b (by decide) 2 (.slice (some ⟨gb, 0, none⟩) nl cb))
      have B3 : Hid (Below w.heap.size W1 (w2.setCell ⟨w1.heap.size + 1, 2, none⟩ (.slice (some ⟨gb, 0, none⟩) nl cb))) := (l2.mono hsW1).setCell (p := ⟨w1.heap.size + 1, 2, none⟩) (by (show w.heap.size ≤ w1.heap.size + 1); omega) _
      have HG3 : Hid (OwG w.heap.size (w2.setCell ⟨w1.heap.size + 1, 2, none⟩ (.slice (some ⟨gb, 0, none⟩) nl cb)) (.slice (some ⟨gb, 0, none⟩) nl cb) (nmsB (rest.extract q rest.size))) := by
        obtain ⟨g', cap', cur, fz, e, hbg, hh, r⟩ := hG2
        exact ⟨g', cap', cur, fz, e, by omega, hsetS_ne hh (fun e2 => by have h1 := (Array.getElem?_eq_some_iff.1 Z1.out).1; omega), r⟩
      clear hG2
      gi_upto_region 9 with fail
      clear k0 k2 k1b f1b hcv
      generalize w2.setCell ⟨w1.heap.size + 1, 2, none⟩ (.slice (some ⟨gb, 0, none⟩) nl cb) = W3 at *
      have V0 := hk3.out _ _ Y0.out (by omega)
      have V1 := hk3.out _ _ Y1.out (by omega)
      have k3 := block_cell Z13.out
      have kv0 := block_cell V0
      have kv1 := block_cell V1
      have fv0 := block_frozen V0
      have fv1 := block_frozen V1
      gi_wp2
      clear k3 kv0 kv1 fv0 fv1
      obtain ⟨q0, q1, qb, qt⟩ := res14 (n := w.heap.size) V0 rfl V1 rfl (.string st) (.slice va hs'.length vc) (.slice (some ⟨gb, 0, none⟩) nl cb) (.bool true) (Nat.le_refl _) (Nat.le_trans hsW1 B3.out.size)
      generalize ((((W3.setCell ⟨w.heap.size, 0, none⟩ _).setCell ⟨w.heap.size, 1, none⟩ _).setCell ⟨w.heap.size, 2, none⟩ _).setCell ⟨w.heap.size + 1, 0, none⟩ _) = V9 at *
      have HOV : V9.ownsRow w.heap.size 53 2 (.slice va hs'.length vc) hs'.length (hrs hs') := own_butT HO3.out qt (fun i cur f h => by rintro (rfl | rfl); (rw [V0] at h; cases h); (rw [V1] at h; cases h))
      have HGV : OwG w.heap.size V9 (.slice (some ⟨gb, 0, none⟩) nl cb) (nmsB (rest.extract q rest.size)) := HG3.out.butT qt (fun i cur f h => by rintro (rfl | rfl); (rw [V0] at h; cases h); (rw [V1] at h; cases h))
      have hBW : Below w.heap.size W V9 := B1.out.trans (B3.out.trans qb)
      have hRS : RS14 w.heap.size w.heap.size st rest V9 := .inl ⟨.slice va hs'.length vc, .slice (some ⟨gb, 0, none⟩) nl cb, hs', rest.extract q rest.size, q0, q1, HSP, HOV, HGV⟩
      have hbV9 := hbW.trans hBW
      refine ⟨⟨hBW.size, fun i o hi ho hc => ?_⟩, hRS, hbV9⟩
      have o1 := hn1.out i o ho (.inl hc)
      have o3 := hk3.out i o o1 (keepNe (n := w.heap.size) o1 (.inl hc) Z1.out (by omega))
      exact (qt.block i (Array.getElem?_eq_some_iff.1 o3).1 (by
        rintro (rfl | rfl)
        · rw [V0] at o3; cases o3; cases hc
        · rw [V1] at o3; cases o3; cases hc)).trans o3
    · have hne1 := str_ne hz1
      gi_upto_region 10 with fail
      have HCT := hide (fun W (h : TabM W) => ((callsIn_wide (n := 2)).2 (cut_any x1 nmE W h (by omega))).inRound l)
      have HBD2 := hide (HBD.out hz1)
      have HON2 := hide (HON.out hz1)
      have hcs1 := (cut_sizes x1 nmE).1
      have HHO : Hid (hdO x1 = (cutA x1 nmE, cutZ x1 nmE)) := rfl
      clear HEN HBD HON hne1
      generalize hdO x1 = hd1 at *
      generalize cutA x1 nmE = ca at *
      generalize cutZ x1 nmE = cz at *
      generalize cutF x1 nmE = cf1 at *
      gi_wp2
      refine ⟨trivial, ?_⟩
      refine (HCT.out W1 (hM.later (hbW.trans B1.out))).mono ?_
      rintro e W2 ⟨rfl, l2⟩
      have U0 := later_keep l2 Y0.out
      have U1 := later_keep l2 Y1.out
      have hsW2 : w.heap.size ≤ W2.heap.size := Nat.le_trans hsW1 l2.size
      have B2 : Hid (Below w.heap.size W W2) := B1.out.trans (l2.mono hsW1)
      cases cf1 with
      | false =>
        have HSP := hide (HBD2.out rfl)
        clear HBD2 HON2 HCT
        have kv0 := block_cell U0
        have kv1 := block_cell U1
        have fv0 := block_frozen U0
        have fv1 := block_frozen U1
        gi_wp2
        clear kv0 kv1 fv0 fv1
        obtain ⟨q0, q1, qb, qt⟩ := res14 (n := w.heap.size) U0 rfl U1 rfl (.string ⟨#[]⟩) (.slice none 0 0) (.slice none 0 0) (.bool false) (Nat.le_refl _) hsW2
        generalize ((((W2.setCell ⟨w.heap.size, 0, none⟩ _).setCell ⟨w.heap.size, 1, none⟩ _).setCell ⟨w.heap.size, 2, none⟩ _).setCell ⟨w.heap.size + 1, 0, none⟩ _) = V9 at *
        have hBW : Below w.heap.size W V9 := B2.out.trans qb
        have hRS : RS14 w.heap.size w.heap.size st rest V9 := .inr ⟨q0, q1, HSP⟩
        have hbV9 := hbW.trans hBW
        refine ⟨⟨hBW.size, fun i o hi ho hc => ?_⟩, hRS, hbV9⟩
        have o3 := later_keep l2 (hn1.out i o ho (.inl hc))
        exact (qt.block i (Array.getElem?_eq_some_iff.1 o3).1 (by
          rintro (rfl | rfl)
          · rw [U0] at o3; cases o3; cases hc
          · rw [U1] at o3; cases o3; cases hc)).trans o3
      | true =>
        have HSP : Hid (spT rest = ppd (hs' ++ [(ca, cz)]) (spT (itZ (pre ++ [(x1, x2)]).length rest))) := by
          have h := HON2.out rfl
          rw [HHO.out] at h
          rw [show (pre ++ [(x1, x2)]).length = pre.length + 1 by simp]
          exact h
        clear HBD2 HON2 HCT HHO
        have la := later_allocR W2 (.cells #[.string ca, .string cz] 53)
        have HNB := heap_alloc_new W2 (.cells #[.string ca, .string cz] 53)
        obtain ⟨i0, hi0, hz0, hz1', hz2⟩ := info_partsS info_hdr
        have HRA := hide (ownsS_ct HO1.out (CTs.of (l2.trans la)))
        have HNW : Hid (∀ j u, [Value.string ca, .string cz][j]? = some u → (W2.alloc (.cells #[.string ca, .string cz] 53)).cell? ((⟨W2.heap.size, 0, none⟩ : Addr).add j) = some u) := fun j u hj => by
          rw [show (⟨W2.heap.size, 0, none⟩ : Addr).add j = ⟨W2.heap.size, j, none⟩ from by unfold Addr.add; split <;> simp_all, block_cell HNB j]
          simpa using hj
        have T1 := hide (later_keep (l2.trans la) Z1.out)
        have hkA : Hid (∀ i o, W.heap[i]? = some o → (o.isCells = false ∨ i < w.heap.size) → (W2.alloc (.cells #[.string ca, .string cz] 53)).heap[i]? = some o) := fun i o h hc => later_keep (l2.trans la) (hn1.out i o h hc)
        have T0 := hide (later_keep la U0)
        have T2 := hide (later_keep la U1)
        have T3 := hide (later_keep (l2.trans la) Z0.out)
        have T4 := hide (later_keep (l2.trans la) X2.out)
        have hsWA : w.heap.size ≤ (W2.alloc (.cells #[.string ca, .string cz] 53)).heap.size := Nat.le_trans hsW2 la.size
        have BA := hide (B2.out.trans (la.mono hsW2))
        have k1 := block_cell (later_keep l2 Z1.out)
        clear HNB U0 U1 la l2
        gi_wp2_with (gi_at_builtin; refine wpListIn_append_own _ rfl (.tmp 51) (.tmp 55) 23 rfl w.heap.size 53 i0 (.agg #[.string ⟨#[]⟩, .string ⟨#[]⟩]) 2 32 Tryd.underlying23 hi0 hz0 hz1' hz2 rfl (by decide) _ hs'.length (hrs hs') rfl HRA.out ⟨W2.heap.size, 0, none⟩ 1 1 [.string ca, .string cz] rfl rfl HNW.out (by intro u hu; simp at hu; rcases hu with rfl | rfl <;> rfl) (by simp only [maxLen]; omega) (by omega) hsWA ?_; intro v2 V2 hrow2 hg2 hnn; obtain ⟨a2, cp2, rfl⟩ := owns_form hrow2; have hob2 := keep_row HRA.out hg2 T1.out (.inl fun cur f e => by cases e); have Kv2 := block_cell hob2; have Fv2 := block_frozen hob2; have HGG := hide hg2; have HRR := hide hrow2; clear hg2 hrow2 hnn)
        clear Kv2 Fv2 k1
        have hE1 := heap_set1 hob2 1 (.slice a2 (hs'.length + 1) cp2)
        have hkV : ∀ i o, (W2.alloc (.cells #[.string ca, .string cz] 53)).heap[i]? = some o → ((∀ cur f, o ≠ .cells cur 53 f) ∨ i < w.heap.size) → i ≠ w1.heap.size + 1 → (V2.setCell ⟨w1.heap.size + 1, 1, none⟩ (.slice a2 (hs'.length + 1) cp2)).heap[i]? = some o := fun i o h hh hne => hsetS_ne (keep_row HRA.out HGG.out h hh) hne
        have F0 := hkV _ _ T0.out (.inl fun cur f e => by cases e) (by omega)
        have F1 := hkV _ _ T2.out (.inl fun cur f e => by cases e) (by omega)
        have F3 := hkV _ _ T3.out (.inl fun cur f e => by cases e) (by omega)
        have F4 := hkV _ _ T4.out (.inl fun cur f e => by cases e) (by omega)
        have hE2 : (V2.setCell ⟨w1.heap.size + 1, 1, none⟩ (.slice a2 (hs'.length + 1) cp2)).ownsRow w.heap.size 53 2 (.slice a2 (hs'.length + 1) cp2) (hs' ++ [(ca, cz)]).length (hrs (hs' ++ [(ca, cz)])) := by
          rw [List.length_append, hrs_snoc]
          exact own_set HRR.out hob2 (by decide) 1 _
        have hBV : Below w.heap.size (W2.alloc (.cells #[.string ca, .string cz] 53)) (V2.setCell ⟨w1.heap.size + 1, 1, none⟩ (.slice a2 (hs'.length + 1) cp2)) := ⟨HGG.out.os, HGG.out.tape, HGG.out.output, by have := HGG.out.size; simp at this ⊢; omega, fun i hi => by
          cases hh : (W2.alloc (.cells #[.string ca, .string cz] 53)).heap[i]? with
          | none => have := Array.getElem?_eq_none_iff.1 hh; omega
          | some o => exact hkV i o hh (.inr hi) (by omega)⟩
        have hBW : Below w.heap.size W (V2.setCell ⟨w1.heap.size + 1, 1, none⟩ (.slice a2 (hs'.length + 1) cp2)) := BA.out.trans hBV
        have hKF : KeepsFrom w4.heap.size W (V2.setCell ⟨w1.heap.size + 1, 1, none⟩ (.slice a2 (hs'.length + 1) cp2)) := ⟨hBW.size, fun i o hi ho hc => hkV i o (hkA.out i o ho (.inl hc)) (.inl fun cur f e => by subst e; cases hc) (by omega)⟩
        have hPS : PS14 w.heap.size w1.heap.size w.heap.size st rest (pre ++ [(x1, x2)]) (V2.setCell ⟨w1.heap.size + 1, 1, none⟩ (.slice a2 (hs'.length + 1) cp2)) := by
          refine ⟨F0, F1, F3, ⟨_, hs' ++ [(ca, cz)], hE1, hE2, ?_, HSP⟩, ?_⟩
          · rw [List.length_append, List.length_append, HHL.out]; rfl
          · rw [HQQ.out]; exact F4
        have hbV9 := hbW.trans hBW
        generalize V2.setCell ⟨w1.heap.size + 1, 1, none⟩ (.slice a2 (hs'.length + 1) cp2) = V9 at *
        exact ⟨hKF, hBW, hPS, hbV9⟩
  case done =>
    rintro D xs W hD hxs ⟨⟨hr0, hr1, hx0, ⟨vh, hs', hxm, hOw, hhl, hsp⟩, hx2⟩, hbW⟩ hK
    have hno : pm = none := by
      rw [HP.out, hsp.out, spT_nil (lns_end xs rest hxs.symm)]
      rfl
    have kv0 := block_cell hr0
    have kv1 := block_cell hr1
    have fv0 := block_frozen hr0
    have fv1 := block_frozen hr1
    have HNO := hide hno
    clear hno hxm hOw hsp hhl
    gi_wp2
    clear kv0 kv1 fv0 fv1
    obtain ⟨q0, q1, qb, qt⟩ := res14 (n := w.heap.size) hr0 rfl hr1 rfl (.string ⟨#[]⟩) (.slice none 0 0) (.slice none 0 0) (.bool false) (Nat.le_refl _) hbW.size
    generalize ((((W.setCell ⟨w.heap.size, 0, none⟩ _).setCell ⟨w.heap.size, 1, none⟩ _).setCell ⟨w.heap.size, 2, none⟩ _).setCell ⟨w.heap.size + 1, 0, none⟩ _) = V9 at *
    have hK9 := (qt.block D (Array.getElem?_eq_some_iff.1 hK).1 (by omega)).trans hK
    have q4 := (CTs.put (o' := .deferred none) hK9 rfl).2 _ _ q0 rfl
    have q5 := (CTs.put (o' := .deferred none) hK9 rfl).2 _ _ q1 rfl
    have Q4 := block_cell q4
    have Q5 := block_cell q5
    refine ⟨by simp, .inl ⟨_, _, rfl, run_takeDeferred hK9, ?_⟩⟩
    exact ⟨.tuple #[.agg #[.string ⟨#[]⟩, .slice none 0 0, .slice none 0 0], .bool false], by simp [results, Tryd.results20, go_sem, Q4, Q5], (hbW.trans qb).trans (belowK_b (w := w) (Nat.le_refl _) V9 D _ _ (by omega) hK9 rfl rfl), _, rfl, .inr ⟨HNO.out, rfl⟩⟩
  case stop =>
    rintro D pre W hD _ ⟨hR, hbW⟩ hK
    have hR2 := hR.ct (CTs.put (o' := .deferred none) hK rfl)
    have hB2 : Later w (W.putObj D (.deferred none)) := hbW.trans (belowK_b (w := w) (Nat.le_refl _) W D _ _ (by omega) hK rfl rfl)
    rcases hR2 with ⟨vh, vb, hs', b, h1, h2, h3, h4, h5⟩ | ⟨h1, h2, h3⟩
    · have hpm : pm = some (st, hs', b) := by rw [HP.out, h3.out]; rfl
      obtain ⟨va, vc, rfl⟩ := owns_form h4
      obtain ⟨g1, c1, e1, _⟩ := h5.form
      have H4 := hide h4
      have H5 := hide h5
      have HPM := hide hpm
      clear h4 h5 hpm hR
      generalize (nmsB b).length = nb at *
      subst e1
      have Q4 := block_cell h1
      have Q5 := block_cell h2
      gi_wp2
      refine ⟨by simp, .inl ⟨_, _, rfl, run_takeDeferred hK, ?_⟩⟩
      exact ⟨.tuple #[.agg #[.string st, .slice va hs'.length vc, .slice (some ⟨g1, 0, none⟩) nb c1], .bool true], by simp [results, Tryd.results20, go_sem, Q4, Q5], hB2, _, rfl, .inl ⟨_, _, _, _, _, HPM.out, rfl, H4.out, H5.out⟩⟩
    · have hpm : pm = none := by rw [HP.out, h3.out]; rfl
      have HPM := hide hpm
      clear hpm hR
      have Q4 := block_cell h1
      have Q5 := block_cell h2
      gi_wp2
      refine ⟨by simp, .inl ⟨_, _, rfl, run_takeDeferred hK, ?_⟩⟩
      exact ⟨.tuple #[.agg #[.string ⟨#[]⟩, .slice none 0 0, .slice none 0 0], .bool false], by simp [results, Tryd.results20, go_sem, Q4, Q5], hB2, _, rfl, .inr ⟨HPM.out, rfl⟩⟩
end Go.Proofs.YtehdgndbloaljaaDoor

/- Package sip: Parse. -/
namespace Go.Proofs.YtehdgndbloaljaaDoor
open Go.RowKit Go.Shelf
set_option maxRecDepth 100000
set_option linter.unusedVariables false
set_option linter.unusedSimpArgs false

theorem rdM_nil (n : Nat) (W : World) : RdM n W (.slice none 0 0) [] := .inl ⟨none, 0, rfl, rfl, by omega, fun _ => rfl⟩
theorem rd_nil14 (n : Nat) (W : World) : Rd n W (.slice none 0 0) [] := .inl ⟨none, 0, rfl, rfl, by omega, fun _ => rfl⟩
/-- A message as it lies in memory. -/
def MsQ (m : ByteArray × List Hr × ByteArray) (er : Int) (W : World) (v : Value) : Prop := ∃ vh vb, v = .tuple #[.agg #[.string m.1, vh, vb], .int .i64 er] ∧ RdM W.heap.size W vh m.2.1 ∧ Rd W.heap.size W vb (nmsB m.2.2)

set_option maxRecDepth 100000 in
set_option maxHeartbeats 4000000 in
theorem parse14_any (sb : Value) (zb : List Int) (w : World) (hT : TabI w) (hM : TabM w) (hB : Rd w.heap.size w sb zb) (hy : Mt.By zb) :
    Calls Tryd.prog 7 #[sb] w fun e w' => Later w w' ∧ ∃ v, e = .returned v ∧ MsQ (paM zb) (paE zb) w' v := by
  obtain ⟨ba, bcp, rfl, hbc1, hbc2⟩ := hB.slice
  have l0 : Later w (w.alloc (.cells #[.string ⟨#[]⟩, .slice none 0 0, .slice none 0 0] 25)) := later_allocR _ _
  have C0 := hide (heap_alloc_new w (.cells #[.string ⟨#[]⟩, .slice none 0 0, .slice none 0 0] 25))
  by_cases hlong : 4096 < zb.length
  · have hl' : (4096 : Int) < (zb.length : Int) := by omega
    have HV := hide (paM_long hlong)
    clear hlong
    go_enter Tryd.func7, Tryd.ntmps7
    go_upto_region 1 with fail
    generalize w.alloc _ = w0 at *
    generalize hgc : w.heap.size = gc at C0 ⊢
    have k0 := block_cell C0.out
    have f0 := block_frozen C0.out
    go_wp2_with fail
    generalize hV : (((w0.setCell ⟨gc, 0, none⟩ _).setCell ⟨gc, 1, none⟩ _).setCell ⟨gc, 2, none⟩ _) = V8
    have hV9 : V8 = putRow w0 gc 0 [.string ⟨#[]⟩, .slice none 0 0, .slice none 0 0] := hV.symm
    have hb8 : But (fun b => b = gc) w0 V8 := by rw [hV9]; exact putRow_but (E := fun b => b = gc) (n := gc) rfl _ _ _ _ (But.refl _ _)
    have p8 := putRow_all [.string ⟨#[]⟩, .slice none 0 0, .slice none 0 0] C0.out rfl
    rw [← hV9] at p8
    clear hV hV9 k0 f0
    have P8 := block_cell p8
    have hw8 : Later w V8 := Below.trans l0 (hb8.below l0.size (fun k h e => by omega))
    exact bodyPost_ret (v := .tuple #[.agg #[.string ⟨#[]⟩, .slice none 0 0, .slice none 0 0], .int .i64 8]) (by simp [results, Tryd.results7, go_sem, P8]) rfl ⟨hw8, _, rfl, by rw [HV.out.1, HV.out.2]; exact ⟨_, _, rfl, rdM_nil _ _, rd_nil14 _ _⟩⟩
  · have hl' : ¬ (4096 : Int) < (zb.length : Int) := by omega
    have hcv : ∀ W, Later w W → (convert 22 9 (.slice ba zb.length bcp)).run Tryd.prog W = .ok (.string (strOfNums zb)) W := fun W hW => conv_rd 22 9 5 Tryd.underlying22 Tryd.underlying5 Tryd.underlying9 (hB.below hW)
    have hss : (strOfNums zb).size ≤ 4096 := by rw [strOfNums_size]; omega
    have HSP := hide (fun W (l : Later w W) => split_any (strOfNums zb) W (hM.later l) hss)
    have HNO : Hid (paO zb = none → paE zb = 4 ∧ paM zb = (⟨#[]⟩, [], ⟨#[]⟩)) := fun h => paM_none hlong h
    have HYE : Hid (∀ st hs b, paO zb = some (st, hs, b) → paE zb = 0 ∧ paM zb = (st, hs, b)) := fun st hs b h => paM_some hlong h
    have H1 : Hid (prM (strOfNums zb) = none → paO zb = none) := fun h => paO_none h
    have H2 : Hid (∀ st hs b, prM (strOfNums zb) = some (st, hs, b) → (rgB st hs b.size = false → paO zb = none) ∧ (rgB st hs b.size = true → paO zb = some (st, hs, b)) ∧ szM st hs b.size ≤ 4096) := fun st hs b h => ⟨fun hr => paO_wrong h hr, fun hr => paO_right h hr, by rw [pr_size h]; exact hss⟩
    clear hlong
    generalize prM (strOfNums zb) = pm at *
    generalize strOfNums zb = s at *
    generalize paO zb = po at *
    generalize paE zb = pe at *
    generalize paM zb = pa at *
    have hcv0 := hcv _ l0
    clear hcv
    go_enter Tryd.func7, Tryd.ntmps7
    go_upto_region 3 with fail
    generalize w.alloc _ = w0 at *
    generalize hgc : w.heap.size = gc at C0 ⊢
    go_wp2_with fail
    refine (HSP.out w0 l0).mono ?_
    rintro e w1 ⟨l1, v, rfl, hq⟩
    clear hcv0 HSP
    have L1 : Later w w1 := Later.trans l0 l1
    have C1 := hide (later_keep l1 C0.out)
    rcases hq with ⟨st, vh, vb, hs, b, hpm, rfl, hrow, hG⟩ | ⟨hpm, rfl⟩
    · obtain ⟨h2a, h2b, h2c⟩ := H2.out st hs b hpm
      have HA := hide h2a
      have HB2 := hide h2b
      have hI := ownM_rd hrow
      have hR := hG.rd
      have HRW := hide hrow
      have HGG := hide hG
      clear hrow hG h2a h2b H1 H2 hpm
      obtain ⟨va, vc, rfl, _, _⟩ := hI.slice
      obtain ⟨xa, xc, rfl, _, _⟩ := hR.slice
      have hnl : (nmsB b).length = b.size := nmsB_len b
      have la := later_allocR w1 (.cells #[.string st, .slice va hs.length vc, .slice xa (nmsB b).length xc] 25)
      have CM := hide (heap_alloc_new w1 (.cells #[.string st, .slice va hs.length vc, .slice xa (nmsB b).length xc] 25))
      have HRG := hide (fun W (l : Later w1 W) => (right14_any st hs _ _ (nmsB b) W (hT.later (L1.trans l)) (hI.later l) (hR.later l) (by rw [hnl]; omega)).mono (fun e w' h => (by rw [hnl] at h; exact h : e = .returned (.bool (rgB st hs b.size)) ∧ Later W w')))
      have HI := hide (fun W (l : Later w1 W) => hI.later l)
      have HR := hide (fun W (l : Later w1 W) => hR.later l)
      clear hnl h2c
      generalize rgB st hs b.size = rg at *
      generalize (nmsB b).length = nl at *
      go_upto_region 4 with fail
      change Code.wp _ _ _ _ (w1.alloc (.cells #[.string st, .slice va hs.length vc, .slice xa nl xc] 25))
      have C2 := hide (later_keep la C1.out)
      generalize w1.alloc (.cells #[.string st, .slice va hs.length vc, .slice xa nl xc] 25) = w2 at *
      generalize w1.heap.size = gm at *
      have km := block_cell CM.out
      go_wp2_with fail
      refine (HRG.out w2 la).mono ?_
      rintro e w3 ⟨rfl, l3⟩
      clear km
      have L3 : Later w w3 := L1.trans (la.trans l3)
      have CM3 := later_keep l3 CM.out
      have C3 := later_keep l3 C2.out
      have km := block_cell CM3
      have k0 := block_cell C3
      have f0 := block_frozen C3
      cases rg with
      | false =>
        have HV := hide (HNO.out (HA.out rfl))
        go_wp2_with fail
        generalize hV : (((w3.setCell ⟨gc, 0, none⟩ _).setCell ⟨gc, 1, none⟩ _).setCell ⟨gc, 2, none⟩ _) = V8
        have hV9 : V8 = putRow w3 gc 0 [.string ⟨#[]⟩, .slice none 0 0, .slice none 0 0] := hV.symm
        have hb8 : But (fun b => b = gc) w3 V8 := by rw [hV9]; exact putRow_but (E := fun b => b = gc) (n := gc) rfl _ _ _ _ (But.refl _ _)
        have p8 := putRow_all [.string ⟨#[]⟩, .slice none 0 0, .slice none 0 0] C3 rfl
        rw [← hV9] at p8
        clear hV hV9 k0 f0 km
        have P8 := block_cell p8
        have hw8 : Later w V8 := Below.trans L3 (hb8.below L3.size (fun k h e => by omega))
        exact bodyPost_ret (v := .tuple #[.agg #[.string ⟨#[]⟩, .slice none 0 0, .slice none 0 0], .int .i64 4]) (by simp [results, Tryd.results7, go_sem, P8]) rfl ⟨hw8, _, rfl, by rw [HV.out.1, HV.out.2]; exact ⟨_, _, rfl, rdM_nil _ _, rd_nil14 _ _⟩⟩
      | true =>
        have HV := hide (HYE.out st hs b (HB2.out rfl))
        have HI3 := hide (ownM_later HRW.out (la.trans l3))
        have HR3 := hide (HGG.out.later (la.trans l3))
        go_wp2_with fail
        generalize hV : (((w3.setCell ⟨gc, 0, none⟩ _).setCell ⟨gc, 1, none⟩ _).setCell ⟨gc, 2, none⟩ _) = V8
        have hV9 : V8 = putRow w3 gc 0 [.string st, .slice va hs.length vc, .slice xa nl xc] := hV.symm
        have hb8 : But (fun b => b = gc) w3 V8 := by rw [hV9]; exact putRow_but (E := fun b => b = gc) (n := gc) rfl _ _ _ _ (But.refl _ _)
        have p8 := putRow_all [.string st, .slice va hs.length vc, .slice xa nl xc] C3 rfl
        rw [← hV9] at p8
        clear hV hV9 k0 f0 km
        have P8 := block_cell p8
        have hw8 : Later w V8 := Below.trans L3 (hb8.below L3.size (fun k h e => by omega))
        have hM8 := ownM_rd (own_butT HI3.out hb8 (fun i cur f h => by rintro rfl; rw [C3] at h; cases h))
        have hG8 := (HR3.out.butT hb8 (fun i cur f h => by rintro rfl; rw [C3] at h; cases h)).rd
        exact bodyPost_ret (v := .tuple #[.agg #[.string st, .slice va hs.length vc, .slice xa nl xc], .int .i64 0]) (by simp [results, Tryd.results7, go_sem, P8]) rfl ⟨hw8, _, rfl, by rw [HV.out.1, HV.out.2]; exact ⟨_, _, rfl, hM8, hG8⟩⟩
    · have HV := hide (HNO.out (H1.out hpm))
      have C2 := hide (later_keep (later_allocR w1 (.cells #[.string ⟨#[]⟩, .slice none 0 0, .slice none 0 0] 25)) C1.out)
      have la := later_allocR w1 (.cells #[.string ⟨#[]⟩, .slice none 0 0, .slice none 0 0] 25)
      go_upto_region 4 with fail
      change Code.wp _ _ _ _ (w1.alloc (.cells #[.string ⟨#[]⟩, .slice none 0 0, .slice none 0 0] 25))
      generalize w1.alloc (.cells #[.string ⟨#[]⟩, .slice none 0 0, .slice none 0 0] 25) = w2 at *
      have L3 : Later w w2 := L1.trans la
      have k0 := block_cell C2.out
      have f0 := block_frozen C2.out
      go_wp2_with fail
      generalize hV : (((w2.setCell ⟨gc, 0, none⟩ _).setCell ⟨gc, 1, none⟩ _).setCell ⟨gc, 2, none⟩ _) = V8
      have hV9 : V8 = putRow w2 gc 0 [.string ⟨#[]⟩, .slice none 0 0, .slice none 0 0] := hV.symm
      have hb8 : But (fun b => b = gc) w2 V8 := by rw [hV9]; exact putRow_but (E := fun b => b = gc) (n := gc) rfl _ _ _ _ (But.refl _ _)
      have p8 := putRow_all [.string ⟨#[]⟩, .slice none 0 0, .slice none 0 0] C2.out rfl
      rw [← hV9] at p8
      clear hV hV9 k0 f0
      have P8 := block_cell p8
      have hw8 : Later w V8 := Below.trans L3 (hb8.below L3.size (fun k h e => by omega))
      exact bodyPost_ret (v := .tuple #[.agg #[.string ⟨#[]⟩, .slice none 0 0, .slice none 0 0], .int .i64 4]) (by simp [results, Tryd.results7, go_sem, P8]) rfl ⟨hw8, _, rfl, by rw [HV.out.1, HV.out.2]; exact ⟨_, _, rfl, rdM_nil _ _, rd_nil14 _ _⟩⟩
end Go.Proofs.YtehdgndbloaljaaDoor

/- The document's Parse. -/
namespace Go.Proofs.YtehdgndbloaljaaDoor
open Go.RowKit Go.Shelf
set_option maxRecDepth 100000
set_option linter.unusedVariables false
set_option linter.unusedSimpArgs false

theorem Ow.setT14 {base : Nat} {W : World} {v : Value} {ys : List Int} (h : Ow base W v ys) {g : Nat} {cur : Array Value} {t : TypeId} (hg : W.heap[g]? = some (.cells cur t (0, 0))) (ht : t ≠ 5) (j : Nat) (u : Value) : Ow base (W.setCell ⟨g, j, none⟩ u) v ys := by
  rcases h with h | ⟨g', cap, cur', e, h1, h2, h3, h4, hh, r⟩
  · exact .inl h
  · exact .inr ⟨g', cap, cur', e, h1, h2, h3, h4, hsetS_ne hh (fun e => by subst e; rw [hg] at hh; cases hh; exact ht rfl), r⟩
theorem Ow.butT14 {base : Nat} {E : Nat → Prop} {W W' : World} {v : Value} {ys : List Int} (h : Ow base W v ys) (hb : But E W W') (hE : ∀ g cur fz, W.heap[g]? = some (.cells cur 5 fz) → ¬ E g) : Ow base W' v ys := by
  rcases h with h | ⟨g', cap, cur', e, h1, h2, h3, h4, hh, r⟩
  · exact .inl h
  · exact .inr ⟨g', cap, cur', e, h1, h2, h3, h4, (hb.block g' (Array.getElem?_eq_some_iff.1 hh).1 (hE g' cur' _ hh)).trans hh, r⟩
theorem szM_each {st : ByteArray} {hs : List Hr} {n : Nat} (h : szM st hs n ≤ 4096) : st.size ≤ 140737488355328 ∧ ∀ h ∈ hs, h.1.size ≤ 140737488355328 ∧ h.2.size ≤ 140737488355328 := by
  unfold szM at h
  exact ⟨by omega, fun x hx => by have := hsz_mem hx; omega⟩
/-- What the document's Parse keeps from line to line. -/
def PR14 (g gm : Nat) (st : ByteArray) (sp0 : Option (List Hr × ByteArray)) (rv ov : Value) (w W : World) : Prop :=
  Below g w W ∧ Hid (W.heap[g]? = some (.cells #[.string ⟨#[]⟩, .slice none 0 0, .slice none 0 0] 31 (0, 0))) ∧
  ((ov = .bool true ∧ ∃ hs t vh, Hid (Rd g W rv (nmsB t)) ∧ Hid (W.heap[gm]? = some (.cells #[.string st, vh, .slice none 0 0] 31 (0, 0))) ∧ Hid (W.ownsRow g 64 2 vh hs.length (hrs hs)) ∧ hs.length + t.size ≤ 4096 ∧ Hid (sp0 = ppd hs (spT t))) ∨
   (ov = .bool false ∧ Hid (sp0 = none)))

set_option maxRecDepth 100000 in
set_option maxHeartbeats 8000000 in
theorem rparse14_any (sb : Value) (zb : List Int) (w : World) (hB : Rd w.heap.size w sb zb) (hy : Mt.By zb) :
    Calls Tryd.prog 8 #[sb] w fun e w' => Later w w' ∧ ∃ v, e = .returned v ∧ MsQ (paM zb) (paE zb) w' v := by
  obtain ⟨ba, bcp, rfl, hbc1, hbc2⟩ := hB.slice
  have l0 : Later w (w.alloc (.cells #[.string ⟨#[]⟩, .slice none 0 0, .slice none 0 0] 31)) := later_allocR _ _
  have C0 := hide (heap_alloc_new w (.cells #[.string ⟨#[]⟩, .slice none 0 0, .slice none 0 0] 31))
  by_cases hlong : 4096 < zb.length
  · have hl' : (4096 : Int) < (zb.length : Int) := by omega
    have HV := hide (paM_long hlong)
    clear hlong
    go_enter Tryd.func8, Tryd.ntmps8
    go_upto_region 1 with fail
    generalize w.alloc _ = w0 at *
    have k0 := block_cell C0.out
    have f0 := block_frozen C0.out
    go_wp2_with fail
    generalize hV : (((w0.setCell ⟨w.heap.size, 0, none⟩ _).setCell ⟨w.heap.size, 1, none⟩ _).setCell ⟨w.heap.size, 2, none⟩ _) = V8
    have hV9 : V8 = putRow w0 w.heap.size 0 [.string ⟨#[]⟩, .slice none 0 0, .slice none 0 0] := hV.symm
    have hb8 : But (fun b => b = w.heap.size) w0 V8 := by rw [hV9]; exact putRow_but (E := fun b => b = w.heap.size) (n := w.heap.size) rfl _ _ _ _ (But.refl _ _)
    have p8 := putRow_all [.string ⟨#[]⟩, .slice none 0 0, .slice none 0 0] C0.out rfl
    rw [← hV9] at p8
    clear hV hV9 k0 f0
    have P8 := block_cell p8
    have hw8 : Later w V8 := Below.trans l0 (hb8.below l0.size (fun k h e => by omega))
    exact bodyPost_ret (v := .tuple #[.agg #[.string ⟨#[]⟩, .slice none 0 0, .slice none 0 0], .int .i64 8]) (by simp [results, Tryd.results8, go_sem, P8]) rfl ⟨hw8, _, rfl, by rw [HV.out.1, HV.out.2]; exact ⟨_, _, rfl, rdM_nil _ _, rd_nil14 _ _⟩⟩
  · have hl' : ¬ (4096 : Int) < (zb.length : Int) := by omega
    have hss : (strOfNums zb).size ≤ 4096 := by rw [strOfNums_size]; omega
    have HCT := hide (fun W (l : Later w W) => rcut_any w.heap.size _ zb W l.size (hB.below l) hy (by omega))
    have HNO : Hid (paO zb = none → paE zb = 4 ∧ paM zb = (⟨#[]⟩, [], ⟨#[]⟩)) := fun h => paM_none hlong h
    have HYE : Hid (∀ st hs b, paO zb = some (st, hs, b) → paE zb = 0 ∧ paM zb = (st, hs, b)) := fun st hs b h => paM_some hlong h
    have H1 : Hid (spT (cutZ (strOfNums zb) crB) = none → paO zb = none) := fun h => paO_none (by unfold prM; rw [h]; rfl)
    have H2 : Hid (∀ hs b, spT (cutZ (strOfNums zb) crB) = some (hs, b) → (rgB (cutA (strOfNums zb) crB) hs b.size = false → paO zb = none) ∧ (rgB (cutA (strOfNums zb) crB) hs b.size = true → paO zb = some (cutA (strOfNums zb) crB, hs, b)) ∧ szM (cutA (strOfNums zb) crB) hs b.size ≤ 4096) := fun hs b h => by
      have hp : prM (strOfNums zb) = some (cutA (strOfNums zb) crB, hs, b) := by unfold prM; rw [h]; rfl
      exact ⟨fun hr => paO_wrong hp hr, fun hr => paO_right hp hr, by rw [pr_size hp]; exact hss⟩
    have hcs := (cut_sizes (strOfNums zb) crB).1
    have HCN : Hid (cutF (strOfNums zb) crB = false → spT (cutZ (strOfNums zb) crB) = none) := fun h => by rw [(cut_no h).2]; exact spT_nil rfl
    clear hlong
    generalize strOfNums zb = s at *
    generalize paO zb = po at *
    generalize paE zb = pe at *
    generalize paM zb = pa at *
    generalize hcz : cutZ s crB = rest at *
    generalize hcst : cutA s crB = sst at *
    have HCZ := hide hcz
    have HCS := hide hcst
    clear hcz hcst
    go_enter Tryd.func8, Tryd.ntmps8
    go_upto_region 3 with fail
    generalize w.alloc _ = w0 at *
    go_wp2_with fail
    refine (HCT.out w0 l0).mono ?_
    rintro e w1 ⟨l1, v, rfl, hq⟩
    clear HCT
    have L1 : Later w w1 := Later.trans l0 l1
    have C1 := hide (later_keep l1 C0.out)
    rcases hq with ⟨hcf, vb, rfl, hR⟩ | ⟨hcf, rfl⟩
    · rw [HCZ.out] at hR
      rw [HCS.out]
      clear HCN
      obtain ⟨ra, rc, rfl, _, _⟩ := hR.slice
      have la := later_allocR w1 (.cells #[.string sst, .slice none 0 0, .slice none 0 0] 31)
      have CM := hide (heap_alloc_new w1 (.cells #[.string sst, .slice none 0 0, .slice none 0 0] 31))
      have C2 := hide (later_keep la C1.out)
      have L2 : Later w (w1.alloc (.cells #[.string sst, .slice none 0 0, .slice none 0 0] 31)) := L1.trans la
      have R2 := hide (hR.below (la.mono L1.size))
      have hgm : w.heap.size < w1.heap.size := (Array.getElem?_eq_some_iff.1 C1.out).1
      clear hR hcf
      generalize (nmsB rest).length = rl at *
      go_upto_region 5 with fail
      change Code.wp _ _ _ _ (w1.alloc (.cells #[.string sst, .slice none 0 0, .slice none 0 0] 31))
      generalize w1.alloc (.cells #[.string sst, .slice none 0 0, .slice none 0 0] 31) = w2 at *
      generalize w1.heap.size = gm at *
      go_loopw [5, 6, 8, 9] (fun rv ov lv av wr => PR14 w.heap.size gm sst (spT rest) rv ov w wr) (fun rv _ _ _ _ => match rv with | .slice _ n _ => n | _ => 0)
      case atStart => exact ⟨L2, C2, .inl ⟨rfl, [], rest, .slice none 0 0, R2, CM, hide ⟨rfl, .inl ⟨rfl, rfl⟩⟩, by simp; omega, by (show _ = _); rw [ppd_nil]⟩⟩
      case round =>
        clear C2 CM R2 L2 la
        obtain ⟨hbr, CR, ⟨rfl, hs, t, vh, HR, HMB, HO, hlen, HSP⟩ | ⟨rfl, HSN⟩⟩ := hrel
        · obtain ⟨ra', rc', e, _, _⟩ := HR.out.slice
          subst e
          have HC2 := hide (rcut_any w.heap.size _ (nmsB t) wr hbr.size HR.out (nmsB_by t) (by rw [nmsB_len]; omega))
          rw [str_nms] at HC2
          have HTL := hide (nmsB_len t)
          generalize (nmsB t).length = tl at *
          have hbrs := hbr.size
          go_upto_region 7 with fail
          go_wp2_with fail
          refine HC2.out.mono ?_
          rintro e w3 ⟨l3, v, rfl, hq⟩
          have CR3 := hide (later_keep l3 CR.out)
          have L3 : Later w w3 := Below.trans hbr (l3.mono hbrs)
          have MB3 := hide (later_keep l3 HMB.out)
          have HO3 := hide (ownsS_ct HO.out (CTs.of l3))
          clear HC2 CR HMB HO HR
          rcases hq with ⟨hcf, vb, rfl, hR3⟩ | ⟨hcf, rfl⟩
          · have hf := congrArg ByteArray.size (cut_yes hcf)
            rw [ByteArray.size_append, ByteArray.size_append, show crB.size = 2 from rfl] at hf
            have ht0 : t.size ≠ 0 := by omega
            obtain ⟨za, zc, rfl, _, _⟩ := hR3.slice
            obtain ⟨va, vc, rfl⟩ := owns_form HO3.out
            by_cases hl0 : (cutA t crB).size = 0
            · have HS2 := HSP.out.trans (ppd_end hs ht0 hl0)
              obtain ⟨g2a, g2b, g2c⟩ := H2.out hs (cutZ t crB) HS2
              have G2A := hide g2a
              have G2B := hide g2b
              have hel := str_empty _ hl0
              rw [hel]
              have HZL := nmsB_len (cutZ t crB)
              have hzl4 : (nmsB (cutZ t crB)).length ≤ 4096 := by omega
              have HZB := hide (nmsB_by (cutZ t crB))
              clear HS2 g2a g2b hel hl0 HSP hcf hf
              generalize cutZ t crB = z at *
              have HZL2 := hide HZL
              clear HZL
              obtain ⟨i0, hi, hz0, hz1, hz2⟩ := info_partsS info_u8
              have km := block_cell MB3.out
              have hgm3 := (Array.getElem?_eq_some_iff.1 MB3.out).1
              generalize hzl : (nmsB z).length = zl at *
              go_upto_region 10 with fail
              clear km
              have km := block_cell MB3.out
              go_upto_region 11 with (at_builtin; refine wpList_app _ rfl (.tmp 34) (.tmp 35) 22 rfl w.heap.size 5 i0 Tryd.underlying22 hi hz0 hz1 hz2 (.slice none 0 0) [] rfl ⟨rfl, .inl ⟨rfl, rfl⟩⟩ w.heap.size _ (nmsB z) rfl hR3 (by simp; omega) L3.size ?_; intro v2 W2 hrow2 hg2; simp only [List.nil_append] at hrow2; have hO2 := Ow.of_row hrow2; obtain ⟨a2, c2, e2, hp2, hm2⟩ := hO2.slice; rw [hzl] at e2; subst e2; have mb2 := (hg2.block gm hgm3 (fun e => by cases e)).trans MB3.out; have K2 := block_cell mb2; have F2 := block_frozen mb2; have HG2 := hide hg2; have HOB := hide hO2; have MB2 := hide mb2; clear hrow2 hg2 hO2 mb2)
              clear km K2 F2
              have MB4 := hide (heap_set1 MB2.out 2 (.slice a2 zl c2))
              have hkp : Hid (∀ i o, w3.heap[i]? = some o → i ≠ gm → (W2.setCell ⟨gm, 2, none⟩ (.slice a2 zl c2)).heap[i]? = some o) := fun i o h hne => hsetS_ne ((HG2.out.block i (Array.getElem?_eq_some_iff.1 h).1 (fun e => by cases e)).trans h) hne
              have CR4 := hide (hkp.out _ _ CR3.out (by omega))
              have HO4 := hide (own_set (ownsS_ct HO3.out (CTs.row HG2.out (fun r e => by cases e))) MB2.out (by decide) 2 (.slice a2 zl c2))
              have HB4 := hide (HOB.out.setT14 MB2.out (by decide) 2 (.slice a2 zl c2))
              have L4 : Later w (W2.setCell ⟨gm, 2, none⟩ (.slice a2 zl c2)) := (below_app (v := .slice none 0 0) (xs := []) (n := 0) (size := 1) (e := 5) (base := w.heap.size) L3 ⟨rfl, .inl ⟨rfl, rfl⟩⟩ HG2.out (Nat.le_refl _) (Below.size L3)).setCell (p := ⟨gm, 2, none⟩) (by (show w.heap.size ≤ gm); omega) _
              clear HG2 HOB HO3
              generalize W2.setCell ⟨gm, 2, none⟩ (.slice a2 zl c2) = W4 at *
              have HRR := hide ((rright14_any sst hs _ _ (nmsB z) W4 (ownR_rd HO4.out) HB4.out.rd (by rw [nmsB_len]; omega) (szM_each g2c)).mono (fun e w' h => (by rw [nmsB_len] at h; exact h : e = .returned (.bool (rgB sst hs z.size)) ∧ Later W4 w')))
              have k4 := block_cell MB4.out
              simp only [List.setIfInBounds_toArray, List.set_cons_succ, List.set_cons_zero] at k4
              generalize rgB sst hs z.size = rg at *
              go_wp2_with fail
              refine HRR.out.mono ?_
              rintro e w5 ⟨rfl, l5⟩
              clear k4 HRR
              have CR5 := hide (later_keep l5 CR4.out)
              have L5 : Later w w5 := L4.trans l5
              have HO5 := hide (ownsS_ct HO4.out (CTs.of l5))
              have HB5 := hide (HB4.out.later l5)
              have MB5 := hide (later_keep l5 MB4.out)
              clear HO4 HB4 CR4 MB4
              cases rg with
              | false =>
                have HV := hide (HNO.out (G2A.out rfl))
                have kc := block_cell CR5.out; have fc := block_frozen CR5.out; go_wp2_with fail; generalize hV : (((w5.setCell ⟨w.heap.size, 0, none⟩ _).setCell ⟨w.heap.size, 1, none⟩ _).setCell ⟨w.heap.size, 2, none⟩ _) = V8; have hV9 : V8 = putRow w5 w.heap.size 0 [.string ⟨#[]⟩, .slice none 0 0, .slice none 0 0] := hV.symm; have hb8 : But (fun b => b = w.heap.size) w5 V8 := (by rw [hV9]; exact putRow_but (E := fun b => b = w.heap.size) (n := w.heap.size) rfl _ _ _ _ (But.refl _ _)); have p8 := putRow_all [.string ⟨#[]⟩, .slice none 0 0, .slice none 0 0] CR5.out rfl; rw [← hV9] at p8; clear hV hV9 kc fc; have P8 := block_cell p8; have hw8 : Later w V8 := Below.trans L5 (hb8.below (Below.size L5) (fun k h e => by omega)); exact bodyPost_ret (v := .tuple #[.agg #[.string ⟨#[]⟩, .slice none 0 0, .slice none 0 0], .int .i64 4]) (by simp [results, Tryd.results8, go_sem, P8]) rfl ⟨hw8, _, rfl, by rw [HV.out.1, HV.out.2]; exact ⟨_, _, rfl, rdM_nil _ _, rd_nil14 _ _⟩⟩
              | true =>
                have HV := hide (HYE.out sst hs z (G2B.out rfl))
                have k5 := block_cell MB5.out
                simp only [List.setIfInBounds_toArray, List.set_cons_succ, List.set_cons_zero] at k5
                have kc := block_cell CR5.out
                have fc := block_frozen CR5.out
                go_wp2_with fail
                generalize hV : (((w5.setCell ⟨w.heap.size, 0, none⟩ _).setCell ⟨w.heap.size, 1, none⟩ _).setCell ⟨w.heap.size, 2, none⟩ _) = V8
                have hV9 : V8 = putRow w5 w.heap.size 0 [.string sst, .slice va hs.length vc, .slice a2 zl c2] := hV.symm
                have hb8 : But (fun b => b = w.heap.size) w5 V8 := by rw [hV9]; exact putRow_but (E := fun b => b = w.heap.size) (n := w.heap.size) rfl _ _ _ _ (But.refl _ _)
                have p8 := putRow_all [.string sst, .slice va hs.length vc, .slice a2 zl c2] CR5.out rfl
                rw [← hV9] at p8
                clear hV hV9 kc fc k5
                have P8 := block_cell p8
                have hw8 : Later w V8 := Below.trans L5 (hb8.below (Below.size L5) (fun k h e => by omega))
                have hM8 := ownR_rd (own_butT HO5.out hb8 (fun i cur f h => by rintro rfl; rw [CR5.out] at h; cases h))
                have hG8 := (HB5.out.butT14 hb8 (fun i cur f h => by rintro rfl; rw [CR5.out] at h; cases h)).rd
                exact bodyPost_ret (v := .tuple #[.agg #[.string sst, .slice va hs.length vc, .slice a2 zl c2], .int .i64 0]) (by simp [results, Tryd.results8, go_sem, P8]) rfl ⟨hw8, _, rfl, by rw [HV.out.1, HV.out.2]; exact ⟨_, _, rfl, hM8, hG8⟩⟩
            · have hne1 := str_ne hl0
              have HBD : Hid (cutF (cutA t crB) nmE = false → spT rest = none) := fun h => by rw [HSP.out]; exact ppd_bad hs ht0 hl0 h
              have HON : Hid (cutF (cutA t crB) nmE = true → spT rest = ppd (hs ++ [hdO (cutA t crB)]) (spT (cutZ t crB))) := fun h => by rw [HSP.out]; exact ppd_one hs ht0 hl0 h
              have hls : (cutA t crB).size ≤ 4096 := by omega
              have hzs : (cutZ t crB).size < t.size := by omega
              have HZL := hide (nmsB_len (cutZ t crB))
              clear HSP hl0 hcf hf
              generalize cutA t crB = lt at *
              generalize cutZ t crB = z at *
              generalize hzl : (nmsB z).length = zl at *
              have HRZ := hide hR3
              have hhs4 : hs.length ≤ 4096 := by omega
              clear hR3 hzl
              go_upto_region 14 with fail
              go_loopw [9] (fun av wr => ∃ i : Nat, i ≤ lt.size ∧ av = .int .i64 (i : Int) ∧ wr = w3 ∧ Hid (No2 lt 58 32 i)) (fun av _ => lt.size - (intOf av).toNat)
              case atStart => exact ⟨0, by omega, rfl, rfl, fun j hj => by omega⟩
              case round =>
                obtain ⟨i, hi, rfl, hwq, HN⟩ := hrel
                subst hwq
                by_cases hlt : i + 1 < lt.size
                · have hlt1 : (i : Int) + 1 < (lt.size : Int) := by omega
                  have hlt0 : i < lt.size := by omega
                  have hb0 := bAt_get lt i hlt0
                  have hb1 := bAt_get lt (i + 1) hlt
                  have HS : Hid (¬ (bAt lt i = 58 ∧ bAt lt (i + 1) = 32) → No2 lt 58 32 (i + 1)) := fun h => HN.out.succ h
                  have HC : Hid (bAt lt i = 58 → bAt lt (i + 1) = 32 → cutF lt nmE = true ∧ cutA lt nmE = lt.extract 0 i ∧ cutZ lt nmE = lt.extract (i + 2) lt.size) := fun h0 h1 => cut2_yes (s := lt) (a := 58) (b := 32) (i := i) hlt h0 h1 HN.out
                  clear HN
                  by_cases h0 : bAt lt i = 58
                  · by_cases h1 : bAt lt (i + 1) = 32
                    · obtain ⟨hc1, hc2, hc3⟩ := HC.out h0 h1
                      have HSP : Hid (spT rest = ppd (hs ++ [(lt.extract 0 i, lt.extract (i + 2) lt.size)]) (spT z)) := by
                        have h := HON.out hc1
                        unfold hdO at h
                        rw [hc2, hc3] at h
                        exact h
                      have t0 : ((((lt[i]'hlt0).toNat : Nat) : Int) != 58) = false := by rw [hb0, h0]; rfl
                      have t1 : ((((lt[i + 1]'hlt).toNat : Nat) : Int) != 32) = false := by rw [hb1, h1]; rfl
                      have hng : ¬ (lt.size : Int) ≤ (i : Int) + 1 := by omega
                      clear HC HS HON HBD hc1 hc2 hc3 hb0 hb1 h0 h1
                      go_upto_region 17 with fail
                      clear t0 t1 hng
                      have hkw : Hid (IntKind.i64.wrap ((i : Int) + 2) = ((i + 2 : Nat) : Int)) := by (show _ = _); rw [IntKind.wrap_i64]; omega
                      have hk2 : i + 2 ≤ lt.size := by omega
                      generalize hkk : i + 2 = kk at *
                      clear hkk
                      have hk3 : (kk : Int) ≤ (lt.size : Int) := by omega
                      have hk4 : (lt.size : Int) ≤ 9223372036854775807 := by omega
                      have hk5 : (i : Int) ≤ (lt.size : Int) := by omega
                      refine wp_calmS ?_
                      refine anyU_begin (R1 := Later) (R2 := fun _ _ => True) (D := [11, 13]) 14 rfl (by kernel_rfl) ?_
                      have ld : Later wr wr.drew := Later.drew wr
                      generalize wr.drew = Wd at *
                      have qN : ∀ v1, Later Wd v1 → ∀ j, v1.cell? ⟨gm, j, none⟩ = #[.string sst, .slice va hs.length vc, .slice none 0 0][j]? := fun v1 hv => block_cell (later_keep (ld.trans hv) MB3.out)
                      refine anyU_val Later.pre 0 [1, 11, 13] rfl (by rfl) (by rfl) (by kernel_rfl) (by kernel_rfl) (by kernel_rfl) (by kernel_rfl) (by kernel_rfl) (fun _ _ _ _ h => by cases h.1) (by rfl) ?_; apply Exists.intro; refine ⟨fun v1 hv1 => ?_, ?_⟩; (· (go_simp; rfl)); simp only [Act.put, List.setIfInBounds_toArray, List.set_cons_zero, List.set_cons_succ]
                      refine anyU_val Later.pre 1 [11, 13] rfl (by rfl) (by rfl) (by kernel_rfl) (by kernel_rfl) (by kernel_rfl) (by kernel_rfl) (by kernel_rfl) (fun _ _ _ _ h => by cases h.1) (by rfl) ?_; apply Exists.intro; refine ⟨fun v1 hv1 => ?_, ?_⟩; (· (go_simp; rfl)); simp only [Act.put, List.setIfInBounds_toArray, List.set_cons_zero, List.set_cons_succ]
                      refine anyU_val Later.pre 2 [4, 9, 10, 11, 13] rfl (by rfl) (by rfl) (by kernel_rfl) (by kernel_rfl) (by kernel_rfl) (by kernel_rfl) (by kernel_rfl) (fun _ _ _ _ h => by cases h.1) (by rfl) ?_; apply Exists.intro; refine ⟨fun v1 hv1 => ?_, ?_⟩; (· (go_simp; rfl)); simp only [Act.put, List.setIfInBounds_toArray, List.set_cons_zero, List.set_cons_succ]
                      refine anyU_val Later.pre 3 [4, 9, 10, 11, 13] rfl (by rfl) (by rfl) (by kernel_rfl) (by kernel_rfl) (by kernel_rfl) (by kernel_rfl) (by kernel_rfl) (fun _ _ _ _ h => by cases h.1) (by rfl) ?_; apply Exists.intro; refine ⟨fun v1 hv1 => ?_, ?_⟩; (· (go_simp; rfl)); simp only [Act.put, List.setIfInBounds_toArray, List.set_cons_zero, List.set_cons_succ]
                      refine anyU_val Later.pre 4 [9, 10, 11, 13] rfl (by rfl) (by rfl) (by kernel_rfl) (by kernel_rfl) (by kernel_rfl) (by kernel_rfl) (by kernel_rfl) (fun _ _ _ _ h => by cases h.1) (by rfl) ⟨.string (lt.extract 0 i), fun v1 hv1 => (by first | (go_simp; done) | (go_simp; omega)), ?_⟩
                      simp only [Act.put, List.setIfInBounds_toArray, List.set_cons_zero, List.set_cons_succ]
                      refine anyU_val Later.pre 5 [8, 9, 10, 11, 13] rfl (by rfl) (by rfl) (by kernel_rfl) (by kernel_rfl) (by kernel_rfl) (by kernel_rfl) (by kernel_rfl) (fun _ _ _ _ h => by cases h.1) (by rfl) ?_; apply Exists.intro; refine ⟨fun v1 hv1 => ?_, ?_⟩; (· (go_simp; rfl)); simp only [Act.put, List.setIfInBounds_toArray, List.set_cons_zero, List.set_cons_succ]
                      refine anyU_val Later.pre 6 [7, 8, 9, 10, 11, 13] rfl (by rfl) (by rfl) (by kernel_rfl) (by kernel_rfl) (by kernel_rfl) (by kernel_rfl) (by kernel_rfl) (fun _ _ _ _ h => by cases h.1) (by rfl) ?_; apply Exists.intro; refine ⟨fun v1 hv1 => ?_, ?_⟩; (· (go_simp; rfl)); simp only [Act.put, List.setIfInBounds_toArray, List.set_cons_zero, List.set_cons_succ]
                      refine anyU_val Later.pre 7 [8, 9, 10, 11, 13] rfl (by rfl) (by rfl) (by kernel_rfl) (by kernel_rfl) (by kernel_rfl) (by kernel_rfl) (by kernel_rfl) (fun _ _ _ _ h => by cases h.1) (by rfl) ⟨.int .i64 (kk : Int), fun v1 hv1 => (by go_simp; exact hkw.out), ?_⟩
                      simp only [Act.put, List.setIfInBounds_toArray, List.set_cons_zero, List.set_cons_succ]
                      refine anyU_val Later.pre 8 [9, 10, 11, 13] rfl (by rfl) (by rfl) (by kernel_rfl) (by kernel_rfl) (by kernel_rfl) (by kernel_rfl) (by kernel_rfl) (fun _ _ _ _ h => by cases h.1) (by rfl) ⟨.string (lt.extract kk lt.size), fun v1 hv1 => (by first | (go_simp; done) | (go_simp; omega)), ?_⟩
                      simp only [Act.put, List.setIfInBounds_toArray, List.set_cons_zero, List.set_cons_succ]
                      generalize lt.extract 0 i = n1 at *
                      generalize lt.extract kk lt.size = n2 at *
                      refine anyU_val Later.pre 9 [10, 11, 13] rfl (by rfl) (by rfl) (by kernel_rfl) (by kernel_rfl) (by kernel_rfl) (by kernel_rfl) (by kernel_rfl) (fun _ _ _ _ h => by cases h.1) (by rfl) ?_; apply Exists.intro; refine ⟨fun v1 hv1 => ?_, ?_⟩; (· (go_simp; rfl)); simp only [Act.put, List.setIfInBounds_toArray, List.set_cons_zero, List.set_cons_succ]
                      clear qN
                      refine anyU_one 10 rfl (by kernel_rfl) (by rfl) ?_
                      have l2 := later_allocR Wd (.cells #[.string n1, .string n2] 64)
                      have HNW := hide (heap_alloc_new Wd (.cells #[.string n1, .string n2] 64))
                      unfold Oper.wp
                      go_simp
                      refine ⟨Rj_out (by rfl) l2, ?_⟩
                      change wpAnyU _ _ _ _ _ _ _ _ _ _ (Wd.alloc (.cells #[.string n1, .string n2] 64))
                      generalize Wd.alloc (.cells #[.string n1, .string n2] 64) = W5 at *
                      generalize Wd.heap.size = gw at *
                      have LL := ld.trans l2
                      have EH5 := ownsS_ct HO3.out (CTs.of LL)
                      have EN5 := later_keep LL MB3.out
                      have E05 := later_keep LL CR3.out
                      have hnk := block_cell HNW.out
                      obtain ⟨i0, hi0, hz0, hz1, hz2⟩ := info_partsS info_hdrR
                      have hgc5 : w.heap.size ≤ W5.heap.size := by have := LL.size; have := L3.size; omega
                      obtain ⟨v', W2, hrun, hrow, hg, _⟩ := run_append_own (P := Tryd.prog) W5 w.heap.size 29 29 64 i0 (.agg #[.string ⟨#[]⟩, .string ⟨#[]⟩]) 2 32 Tryd.underlying29 hi0 hz0 hz1 hz2 rfl (by decide) (.slice va hs.length vc) hs.length (hrs hs) EH5 ⟨gw, 0, none⟩ 1 1 [.string n1, .string n2] rfl
                        (fun j u hj => by
                          rw [show (⟨gw, 0, none⟩ : Addr).add j = ⟨gw, 0 + j, none⟩ from by unfold Addr.add; split <;> simp_all]
                          rw [Nat.zero_add, hnk j, ← hj]; simp)
                        (by intro u hu; simp at hu; rcases hu with rfl | rfl <;> rfl) (by unfold maxLen; omega) (by omega) hgc5
                      clear hnk
                      refine anyU_one 11 rfl (by kernel_rfl) (by rfl) ?_
                      refine wp_app (.tmp 68) (.tmp 77) 29 rfl _ _ rfl rfl v' W2 hrun ?_
                      refine ⟨Rj_in (by rfl) trivial, ?_⟩
                      simp only [Act.put, List.setIfInBounds_toArray, List.set_cons_zero, List.set_cons_succ]
                      obtain ⟨a2, cp2, rfl⟩ := owns_form hrow
                      have EN2 := keep_row EH5 hg EN5 (.inl fun cur f e => by cases e)
                      have E02 := keep_row EH5 hg E05 (.inl fun cur f e => by cases e)
                      refine anyU_one 12 rfl (by kernel_rfl) (by rfl) ?_
                      refine wp_value (w' := W2) (.pointer (some ⟨gm, 1, none⟩)) (by go_simp) ?_
                      refine ⟨Rj_out (by rfl) (Later.refl _), ?_⟩
                      simp only [Act.put, List.setIfInBounds_toArray, List.set_cons_zero, List.set_cons_succ]
                      have k2 := block_cell EN2
                      have f2 := block_frozen EN2
                      refine anyU_one 13 rfl (by kernel_rfl) (by rfl) ?_
                      unfold Oper.wp
                      go_simp
                      refine ⟨Rj_in (by rfl) trivial, ?_⟩
                      clear k2 f2
                      refine anyU_done (by kernel_rfl) ?_
                      refine ⟨rfl, ?_⟩
                      have EN8 := heap_set1 EN2 1 (.slice a2 (hs.length + 1) cp2)
                      have E08 := hsetS_ne (j := 1) (v := .slice a2 (hs.length + 1) cp2) E02 (m := gm) (by omega)
                      have EH8 := own_set hrow EN2 (by decide) 1 (.slice a2 (hs.length + 1) cp2)
                      have B8 : Below w.heap.size wr (W2.setCell ⟨gm, 1, none⟩ (.slice a2 (hs.length + 1) cp2)) := ⟨hg.os.trans LL.os, hg.tape.trans LL.tape, hg.output.trans LL.output, by have := LL.size; have := hg.size; simp; omega, fun i hi => by
                        cases hh : wr.heap[i]? with
                        | none => have := Array.getElem?_eq_none_iff.1 hh; have := L3.size; omega
                        | some o => exact hsetS_ne (keep_row EH5 hg (later_keep LL hh) (.inr hi)) (by omega)⟩
                      have EH9 : (W2.setCell ⟨gm, 1, none⟩ (.slice a2 (hs.length + 1) cp2)).ownsRow w.heap.size 64 2 (.slice a2 (hs.length + 1) cp2) (hs ++ [(n1, n2)]).length (hrs (hs ++ [(n1, n2)])) := by
                        rw [List.length_append, hrs_snoc]
                        exact EH8
                      have HE8 := hide E08; have HG8 := hide EN8; have HH9 := hide EH9; have HBL := hide (Below.trans L3 B8)
                      have HRZ8 := hide (HRZ.out.below B8)
                      clear E08 EN8 EH9 EH8 B8 hrow E02 EN2 hg hrun E05 EN5 EH5
                      generalize W2.setCell ⟨gm, 1, none⟩ (.slice a2 (hs.length + 1) cp2) = V8 at *
                      go_wp2_with fail
                      go_roundw
                      case rel => exact ⟨HBL.out, HE8, .inl ⟨rfl, hs ++ [(n1, n2)], z, .slice a2 (hs.length + 1) cp2, HRZ8, HG8, HH9, by simp; omega, HSP⟩⟩
                      case measure => (show zl < tl); rw [HZL.out, HTL.out]; exact hzs
                    · have HSS := hide (HS.out (fun h => h1 h.2))
                      have t0 : ((((lt[i]'hlt0).toNat : Nat) : Int) != 58) = false := by rw [hb0, h0]; rfl
                      have t1 : ((((lt[i + 1]'hlt).toNat : Nat) : Int) != 32) = true := by rw [hb1]; simp [h1]
                      clear HC HS hb0 hb1 h0 h1
                      go_wp2_with fail
                      go_roundw
                      case rel => exact ⟨i + 1, by omega, by go_num, by first | trivial | rfl, HSS⟩
                      case measure => simp [intOf]; omega
                  · have HSS := hide (HS.out (fun h => h0 h.1))
                    have t0 : ((((lt[i]'hlt0).toNat : Nat) : Int) != 58) = true := by rw [hb0]; simp [h0]
                    clear HC HS hb0 hb1 h0
                    go_wp2_with fail
                    go_roundw
                    case rel => exact ⟨i + 1, by omega, by go_num, by first | trivial | rfl, HSS⟩
                    case measure => simp [intOf]; omega
                · have hnl : ¬ (i : Int) + 1 < (lt.size : Int) := by omega
                  have hnl2 : (lt.size : Int) ≤ (i : Int) + 1 := by omega
                  have HV := hide (HNO.out (H1.out (HBD.out (cut2_no (s := lt) (a := 58) (b := 32) (i := i) (by omega) HN.out))))
                  clear HN HON HBD
                  have kc := block_cell CR3.out; have fc := block_frozen CR3.out; go_wp2_with fail; generalize hV : (((wr.setCell ⟨w.heap.size, 0, none⟩ _).setCell ⟨w.heap.size, 1, none⟩ _).setCell ⟨w.heap.size, 2, none⟩ _) = V8; have hV9 : V8 = putRow wr w.heap.size 0 [.string ⟨#[]⟩, .slice none 0 0, .slice none 0 0] := hV.symm; have hb8 : But (fun b => b = w.heap.size) wr V8 := (by rw [hV9]; exact putRow_but (E := fun b => b = w.heap.size) (n := w.heap.size) rfl _ _ _ _ (But.refl _ _)); have p8 := putRow_all [.string ⟨#[]⟩, .slice none 0 0, .slice none 0 0] CR3.out rfl; rw [← hV9] at p8; clear hV hV9 kc fc; have P8 := block_cell p8; have hw8 : Later w V8 := Below.trans L3 (hb8.below (Below.size L3) (fun k h e => by omega)); exact bodyPost_ret (v := .tuple #[.agg #[.string ⟨#[]⟩, .slice none 0 0, .slice none 0 0], .int .i64 4]) (by simp [results, Tryd.results8, go_sem, P8]) rfl ⟨hw8, _, rfl, by rw [HV.out.1, HV.out.2]; exact ⟨_, _, rfl, rdM_nil _ _, rd_nil14 _ _⟩⟩
          · have HV := hide (HNO.out (H1.out (by rw [HSP.out, spT_noend hcf]; rfl)))
            clear HSP hcf
            have kc := block_cell CR3.out; have fc := block_frozen CR3.out; go_wp2_with fail; generalize hV : (((w3.setCell ⟨w.heap.size, 0, none⟩ _).setCell ⟨w.heap.size, 1, none⟩ _).setCell ⟨w.heap.size, 2, none⟩ _) = V8; have hV9 : V8 = putRow w3 w.heap.size 0 [.string ⟨#[]⟩, .slice none 0 0, .slice none 0 0] := hV.symm; have hb8 : But (fun b => b = w.heap.size) w3 V8 := (by rw [hV9]; exact putRow_but (E := fun b => b = w.heap.size) (n := w.heap.size) rfl _ _ _ _ (But.refl _ _)); have p8 := putRow_all [.string ⟨#[]⟩, .slice none 0 0, .slice none 0 0] CR3.out rfl; rw [← hV9] at p8; clear hV hV9 kc fc; have P8 := block_cell p8; have hw8 : Later w V8 := Below.trans L3 (hb8.below (Below.size L3) (fun k h e => by omega)); exact bodyPost_ret (v := .tuple #[.agg #[.string ⟨#[]⟩, .slice none 0 0, .slice none 0 0], .int .i64 4]) (by simp [results, Tryd.results8, go_sem, P8]) rfl ⟨hw8, _, rfl, by rw [HV.out.1, HV.out.2]; exact ⟨_, _, rfl, rdM_nil _ _, rd_nil14 _ _⟩⟩
        · have HV := hide (HNO.out (H1.out HSN.out))
          have kc := block_cell CR.out; have fc := block_frozen CR.out; go_wp2_with fail; generalize hV : (((wr.setCell ⟨w.heap.size, 0, none⟩ _).setCell ⟨w.heap.size, 1, none⟩ _).setCell ⟨w.heap.size, 2, none⟩ _) = V8; have hV9 : V8 = putRow wr w.heap.size 0 [.string ⟨#[]⟩, .slice none 0 0, .slice none 0 0] := hV.symm; have hb8 : But (fun b => b = w.heap.size) wr V8 := (by rw [hV9]; exact putRow_but (E := fun b => b = w.heap.size) (n := w.heap.size) rfl _ _ _ _ (But.refl _ _)); have p8 := putRow_all [.string ⟨#[]⟩, .slice none 0 0, .slice none 0 0] CR.out rfl; rw [← hV9] at p8; clear hV hV9 kc fc; have P8 := block_cell p8; have hw8 : Later w V8 := Below.trans hbr (hb8.below (Below.size hbr) (fun k h e => by omega)); exact bodyPost_ret (v := .tuple #[.agg #[.string ⟨#[]⟩, .slice none 0 0, .slice none 0 0], .int .i64 4]) (by simp [results, Tryd.results8, go_sem, P8]) rfl ⟨hw8, _, rfl, by rw [HV.out.1, HV.out.2]; exact ⟨_, _, rfl, rdM_nil _ _, rd_nil14 _ _⟩⟩
    · have HV := hide (HNO.out (H1.out (HCN.out hcf)))
      have la := later_allocR w1 (.cells #[.string ⟨#[]⟩, .slice none 0 0, .slice none 0 0] 31)
      have C2 := hide (later_keep la C1.out)
      have L2 : Later w (w1.alloc (.cells #[.string ⟨#[]⟩, .slice none 0 0, .slice none 0 0] 31)) := L1.trans la
      go_upto_region 5 with fail
      change Code.wp _ _ _ _ (w1.alloc (.cells #[.string ⟨#[]⟩, .slice none 0 0, .slice none 0 0] 31))
      generalize w1.alloc (.cells #[.string ⟨#[]⟩, .slice none 0 0, .slice none 0 0] 31) = w2 at *
      go_loopw [6] (fun ov wr => ov = .bool false ∧ wr = w2) (fun _ _ => 0)
      case atStart => exact ⟨rfl, rfl⟩
      case round =>
        obtain ⟨rfl, rfl⟩ := hrel
        have kc := block_cell C2.out; have fc := block_frozen C2.out; go_wp2_with fail; generalize hV : (((wr.setCell ⟨w.heap.size, 0, none⟩ _).setCell ⟨w.heap.size, 1, none⟩ _).setCell ⟨w.heap.size, 2, none⟩ _) = V8; have hV9 : V8 = putRow wr w.heap.size 0 [.string ⟨#[]⟩, .slice none 0 0, .slice none 0 0] := hV.symm; have hb8 : But (fun b => b = w.heap.size) wr V8 := (by rw [hV9]; exact putRow_but (E := fun b => b = w.heap.size) (n := w.heap.size) rfl _ _ _ _ (But.refl _ _)); have p8 := putRow_all [.string ⟨#[]⟩, .slice none 0 0, .slice none 0 0] C2.out rfl; rw [← hV9] at p8; clear hV hV9 kc fc; have P8 := block_cell p8; have hw8 : Later w V8 := Below.trans L2 (hb8.below (Below.size L2) (fun k h e => by omega)); exact bodyPost_ret (v := .tuple #[.agg #[.string ⟨#[]⟩, .slice none 0 0, .slice none 0 0], .int .i64 4]) (by simp [results, Tryd.results8, go_sem, P8]) rfl ⟨hw8, _, rfl, by rw [HV.out.1, HV.out.2]; exact ⟨_, _, rfl, rdM_nil _ _, rd_nil14 _ _⟩⟩
end Go.Proofs.YtehdgndbloaljaaDoor

/- The document's text, Build. -/
namespace Go.Proofs.YtehdgndbloaljaaDoor
open Go.RowKit Go.Shelf
set_option maxRecDepth 100000
set_option linter.unusedVariables false
set_option linter.unusedSimpArgs false

end Go.Proofs.YtehdgndbloaljaaDoor

/- The document's Same. -/
namespace Go.Proofs.YtehdgndbloaljaaDoor
open Go.RowKit Go.Shelf
set_option maxRecDepth 100000
set_option linter.unusedVariables false
set_option linter.unusedSimpArgs false

set_option maxRecDepth 100000 in
set_option maxHeartbeats 8000000 in
theorem rsame14_any (s1 s2 : ByteArray) (v1 v2 b1 b2 : Value) (h1 h2 : List Hr) (z1 z2 : List Int) (w : World) (hH1 : RdM w.heap.size w v1 h1) (hH2 : RdM w.heap.size w v2 h2) (hB1 : Rd w.heap.size w b1 z1) (hB2 : Rd w.heap.size w b2 z2) (hy1 : Mt.By z1) (hy2 : Mt.By z2) :
    Calls Tryd.prog 23 #[.agg #[.string s1, v1, b1], .agg #[.string s2, v2, b2]] w fun e w' => e = .returned (.bool (smM s1 s2 h1 h2 z1 z2)) ∧ Later w w' := by
  obtain ⟨a1, c1, rfl, _, _⟩ := hH1.slice
  obtain ⟨a2, c2, rfl, _, _⟩ := hH2.slice
  obtain ⟨a3, c3, rfl, _, _⟩ := hB1.slice
  obtain ⟨a4, c4, rfl, _, _⟩ := hB2.slice
  have hb4 : Later w ((w.alloc (.cells #[.string s1, .slice a1 h1.length c1, .slice a3 z1.length c3] 31)).alloc (.cells #[.string s2, .slice a2 h2.length c2, .slice a4 z2.length c4] 31)) := ((Below.refl _ _).alloc (Nat.le_refl _) _).alloc (by simp) _
  have C0 := hide (show ((w.alloc (.cells #[.string s1, .slice a1 h1.length c1, .slice a3 z1.length c3] 31)).alloc (.cells #[.string s2, .slice a2 h2.length c2, .slice a4 z2.length c4] 31)).heap[w.heap.size]? = some (.cells #[.string s1, .slice a1 h1.length c1, .slice a3 z1.length c3] 31 (0, 0)) from (Below.heap_alloc _ _ _ (by simp)).trans (heap_alloc_new w _))
  have C1 : Hid (((w.alloc (.cells #[.string s1, .slice a1 h1.length c1, .slice a3 z1.length c3] 31)).alloc (.cells #[.string s2, .slice a2 h2.length c2, .slice a4 z2.length c4] 31)).heap[w.heap.size + 1]? = some (.cells #[.string s2, .slice a2 h2.length c2, .slice a4 z2.length c4] 31 (0, 0))) := by
    have := heap_alloc_new (w.alloc (.cells #[.string s1, .slice a1 h1.length c1, .slice a3 z1.length c3] 31)) (.cells #[.string s2, .slice a2 h2.length c2, .slice a4 z2.length c4] 31)
    rw [World.size_alloc] at this
    exact this
  have hv1 := conv_rd 22 9 5 Tryd.underlying22 Tryd.underlying5 Tryd.underlying9 (hB1.later hb4)
  have hv2 := conv_rd 22 9 5 Tryd.underlying22 Tryd.underlying5 Tryd.underlying9 (hB2.later hb4)
  have HV : Hid (smM s1 s2 h1 h2 z1 z2 = (eqS s1 s2 && (decide (h1 = h2) && decide (z1 = z2)))) := rfl
  have HQ := hide (str_beq s1 s2)
  have HZ := hide (str_eq hy1 hy2)
  generalize strOfNums z1 = t1 at *
  generalize strOfNums z2 = t2 at *
  generalize smM s1 s2 h1 h2 z1 z2 = r at *
  generalize decide (z1 = z2) = q2 at *
  generalize eqS s1 s2 = q0 at *
  have HH1 := hide (hH1.later hb4)
  have HH2 := hide (hH2.later hb4)
  clear hB1 hB2 hy1 hy2
  go_enter Tryd.func23, Tryd.ntmps23
  go_upto_region 1 with fail
  generalize (w.alloc (.cells #[.string s1, .slice a1 h1.length c1, .slice a3 z1.length c3] 31)).alloc (.cells #[.string s2, .slice a2 h2.length c2, .slice a4 z2.length c4] 31) = w4 at *
  generalize w.heap.size = gc at C0 C1 ⊢
  have k0 := block_cell C0.out
  have k1 := block_cell C1.out
  have hq0 := HQ.out
  have hqz := HZ.out
  cases q0 with
  | false =>
    go_wp2_with fail
    go_ret
    exact ⟨by rw [HV.out]; rfl, hb4⟩
  | true =>
    by_cases hne : h1.length = h2.length
    case neg =>
      have hb : ((h1.length : Int) != (h2.length : Int)) = true := by simp; omega
      have HE : Hid (r = false) := by show _ = _; rw [HV.out, decide_eq_false (fun e => hne (by rw [e]))]; rfl
      go_wp2_with fail
      go_ret
      exact ⟨by rw [HE.out]; rfl, hb4⟩
    have hb : ((h1.length : Int) != (h2.length : Int)) = false := by simp; omega
    have HNE := hide hne
    clear hne
    cases q2 with
    | false =>
      go_wp2_with fail
      go_ret
      exact ⟨by rw [HV.out]; simp, hb4⟩
    | true =>
      have HV2 : Hid (r = decide (h1 = h2)) := by show _ = _; rw [HV.out]; simp
      go_upto_region 4 with fail
      clear hb hv1 hv2 k0 k1 hq0 hqz HV
      go_loopw [5] (fun iv wr => ∃ k : Nat, k ≤ h1.length ∧ iv = .int .i64 (k : Int) ∧ Later w4 wr ∧ Hid (h1.take k = h2.take k)) (fun iv _ => h1.length - (intOf iv).toNat)
      case atStart => exact ⟨0, by omega, rfl, Later.refl _, hide rfl⟩
      case round =>
        obtain ⟨k, hk, rfl, lr, heq⟩ := hrel
        have k0 := block_cell (later_keep lr C0.out)
        have k1 := block_cell (later_keep lr C1.out)
        by_cases hlt : k < h1.length
        · have hlt' : (k : Int) < (h1.length : Int) := by omega
          have hlt2 : k < h2.length := by rw [← HNE.out]; exact hlt
          have hlt2' : (k : Int) < (h2.length : Int) := by omega
          obtain ⟨b, off, cp, e, _, _, hbn, hcs⟩ := (HH1.out.later lr).cells (by omega)
          cases e
          obtain ⟨b2, off2, cp2, e, _, _, hbn2, hcs2⟩ := (HH2.out.later lr).cells (by omega)
          cases e
          have d0 := hcs k hlt 0 (by omega)
          have d1 := hcs k hlt 1 (by omega)
          have e0 := hcs2 k hlt2 0 (by omega)
          have e1 := hcs2 k hlt2 1 (by omega)
          have HS : Hid (h1[k] = h2[k] → h1.take (k + 1) = h2.take (k + 1)) := fun h => by rw [← List.take_append_getElem hlt, ← List.take_append_getElem hlt2, heq.out, h]
          have HN : Hid (h1[k] ≠ h2[k] → r = false) := fun h => by rw [HV2.out, decide_eq_false_iff_not]; intro e; subst e; exact h rfl
          clear hcs hcs2
          generalize h1[k] = r1 at *
          obtain ⟨x, y⟩ := r1
          generalize h2[k] = r2 at *
          obtain ⟨x2, y2⟩ := r2
          simp only [hrc, List.getElem?_cons_zero, List.getElem?_cons_succ, Nat.add_zero] at d0 d1 e0 e1
          by_cases hxy : (x, y) = (x2, y2)
          · have HSS := hide (HS.out hxy)
            cases hxy
            clear HS HN
            go_upto_region 6 with fail; refine anyR_begin (R := Later) Later.pre Later.drew 11 rfl (by kernel_rfl) (fun V0 hV0 => ?_); have q0 : ∀ v, Later V0 v → v.cell? ⟨b, off + k * 2, none⟩ = some (.string _) := (fun v hv => (hV0.trans hv).cell d0); have q1 : ∀ v, Later V0 v → v.cell? ⟨b, off + k * 2 + 1, none⟩ = some (.string _) := (fun v hv => (hV0.trans hv).cell d1); have q2 : ∀ v, Later V0 v → v.cell? ⟨b2, off2 + k * 2, none⟩ = some (.string _) := (fun v hv => (hV0.trans hv).cell e0); have q3 : ∀ v, Later V0 v → v.cell? ⟨b2, off2 + k * 2 + 1, none⟩ = some (.string _) := (fun v hv => (hV0.trans hv).cell e1); clear d0 d1 e0 e1 k0 k1; have k0 : ∀ v, Later V0 v → ∀ j, v.cell? ⟨gc, j, none⟩ = #[Value.string s1, .slice (some ⟨b, off, none⟩) h1.length c1, .slice a3 z1.length c3][j]? := (fun v hv => block_cell (later_keep (lr.trans (hV0.trans hv)) C0.out)); have k1 : ∀ v, Later V0 v → ∀ j, v.cell? ⟨gc + 1, j, none⟩ = #[Value.string s2, .slice (some ⟨b2, off2, none⟩) h2.length c2, .slice a4 z2.length c4][j]? := (fun v hv => block_cell (later_keep (lr.trans (hV0.trans hv)) C1.out)); refine anyR_val Later.pre 0 rfl (by kernel_rfl) (by kernel_rfl) (by kernel_rfl) (fun _ _ _ _ h => h) rfl ?_; apply Exists.intro; refine ⟨fun v1 hv1 => ?_, ?_⟩; (· (go_simp; rfl)); simp only [Act.put, List.setIfInBounds_toArray, List.set_cons_zero, List.set_cons_succ]; refine anyR_val Later.pre 1 rfl (by kernel_rfl) (by kernel_rfl) (by kernel_rfl) (fun _ _ _ _ h => h) rfl ?_; apply Exists.intro; refine ⟨fun v1 hv1 => ?_, ?_⟩; (· (go_simp; rfl)); simp only [Act.put, List.setIfInBounds_toArray, List.set_cons_zero, List.set_cons_succ]; refine anyR_val Later.pre 2 rfl (by kernel_rfl) (by kernel_rfl) (by kernel_rfl) (fun _ _ _ _ h => h) rfl ?_; apply Exists.intro; refine ⟨fun v1 hv1 => ?_, ?_⟩; (· (go_simp; rfl)); simp only [Act.put, List.setIfInBounds_toArray, List.set_cons_zero, List.set_cons_succ]; refine anyR_val Later.pre 3 rfl (by kernel_rfl) (by kernel_rfl) (by kernel_rfl) (fun _ _ _ _ h => h) rfl ?_; apply Exists.intro; refine ⟨fun v1 hv1 => ?_, ?_⟩; (· (go_simp; rfl)); simp only [Act.put, List.setIfInBounds_toArray, List.set_cons_zero, List.set_cons_succ]; refine anyR_val Later.pre 4 rfl (by kernel_rfl) (by kernel_rfl) (by kernel_rfl) (fun _ _ _ _ h => h) rfl ?_; apply Exists.intro; refine ⟨fun v1 hv1 => ?_, ?_⟩; (· (go_simp; rfl)); simp only [Act.put, List.setIfInBounds_toArray, List.set_cons_zero, List.set_cons_succ]; refine anyR_val Later.pre 5 rfl (by kernel_rfl) (by kernel_rfl) (by kernel_rfl) (fun _ _ _ _ h => h) rfl ?_; apply Exists.intro; refine ⟨fun v1 hv1 => ?_, ?_⟩; (· (go_simp; rfl)); simp only [Act.put, List.setIfInBounds_toArray, List.set_cons_zero, List.set_cons_succ]; refine anyR_val Later.pre 6 rfl (by kernel_rfl) (by kernel_rfl) (by kernel_rfl) (fun _ _ _ _ h => h) rfl ?_; apply Exists.intro; refine ⟨fun v1 hv1 => ?_, ?_⟩; (· (go_simp; rfl)); simp only [Act.put, List.setIfInBounds_toArray, List.set_cons_zero, List.set_cons_succ]; refine anyR_val Later.pre 7 rfl (by kernel_rfl) (by kernel_rfl) (by kernel_rfl) (fun _ _ _ _ h => h) rfl ?_; apply Exists.intro; refine ⟨fun v1 hv1 => ?_, ?_⟩; (· (go_simp; rfl)); simp only [Act.put, List.setIfInBounds_toArray, List.set_cons_zero, List.set_cons_succ]; refine anyR_val Later.pre 8 rfl (by kernel_rfl) (by kernel_rfl) (by kernel_rfl) (fun _ _ _ _ h => h) rfl ?_; apply Exists.intro; refine ⟨fun v1 hv1 => ?_, ?_⟩; (· (go_simp; rfl)); simp only [Act.put, List.setIfInBounds_toArray, List.set_cons_zero, List.set_cons_succ]; refine anyR_val Later.pre 9 rfl (by kernel_rfl) (by kernel_rfl) (by kernel_rfl) (fun _ _ _ _ h => h) rfl ?_; apply Exists.intro; refine ⟨fun v1 hv1 => ?_, ?_⟩; (· (go_simp; rfl)); simp only [Act.put, List.setIfInBounds_toArray, List.set_cons_zero, List.set_cons_succ]; refine anyR_val Later.pre 10 rfl (by kernel_rfl) (by kernel_rfl) (by kernel_rfl) (fun _ _ _ _ h => h) rfl ?_; apply Exists.intro; refine ⟨fun v1 hv1 => ?_, ?_⟩; (· (go_simp; rfl)); simp only [Act.put, List.setIfInBounds_toArray, List.set_cons_zero, List.set_cons_succ]; clear q0 q1 q2 q3 k0 k1; refine anyR_done (by kernel_rfl) (fun V9 hV9 => ?_)
            go_wp2_with fail
            go_roundw
            case rel => exact ⟨k + 1, by omega, by go_num, lr.trans (hV0.trans hV9), HSS⟩
            case measure => simp [intOf]; omega
          · have HVV := hide (HN.out hxy)
            have hor : (¬ x.toList = x2.toList) ∨ (x.toList = x2.toList ∧ ¬ y.toList = y2.toList) := by
              by_cases hx : x.toList = x2.toList
              · refine .inr ⟨hx, fun hy => hxy ?_⟩
                rw [ByteArray.toList_eq, ByteArray.toList_eq] at hx hy
                rw [ba_ext hx, ba_ext hy]
              · exact .inl hx
            clear HS HN hxy
            rcases hor with hx | ⟨hx, hy⟩
            · go_upto_region 6 with fail; refine anyR_begin (R := Later) Later.pre Later.drew 11 rfl (by kernel_rfl) (fun V0 hV0 => ?_); have q0 : ∀ v, Later V0 v → v.cell? ⟨b, off + k * 2, none⟩ = some (.string _) := (fun v hv => (hV0.trans hv).cell d0); have q1 : ∀ v, Later V0 v → v.cell? ⟨b, off + k * 2 + 1, none⟩ = some (.string _) := (fun v hv => (hV0.trans hv).cell d1); have q2 : ∀ v, Later V0 v → v.cell? ⟨b2, off2 + k * 2, none⟩ = some (.string _) := (fun v hv => (hV0.trans hv).cell e0); have q3 : ∀ v, Later V0 v → v.cell? ⟨b2, off2 + k * 2 + 1, none⟩ = some (.string _) := (fun v hv => (hV0.trans hv).cell e1); clear d0 d1 e0 e1 k0 k1; have k0 : ∀ v, Later V0 v → ∀ j, v.cell? ⟨gc, j, none⟩ = #[Value.string s1, .slice (some ⟨b, off, none⟩) h1.length c1, .slice a3 z1.length c3][j]? := (fun v hv => block_cell (later_keep (lr.trans (hV0.trans hv)) C0.out)); have k1 : ∀ v, Later V0 v → ∀ j, v.cell? ⟨gc + 1, j, none⟩ = #[Value.string s2, .slice (some ⟨b2, off2, none⟩) h2.length c2, .slice a4 z2.length c4][j]? := (fun v hv => block_cell (later_keep (lr.trans (hV0.trans hv)) C1.out)); refine anyR_val Later.pre 0 rfl (by kernel_rfl) (by kernel_rfl) (by kernel_rfl) (fun _ _ _ _ h => h) rfl ?_; apply Exists.intro; refine ⟨fun v1 hv1 => ?_, ?_⟩; (· (go_simp; rfl)); simp only [Act.put, List.setIfInBounds_toArray, List.set_cons_zero, List.set_cons_succ]; refine anyR_val Later.pre 1 rfl (by kernel_rfl) (by kernel_rfl) (by kernel_rfl) (fun _ _ _ _ h => h) rfl ?_; apply Exists.intro; refine ⟨fun v1 hv1 => ?_, ?_⟩; (· (go_simp; rfl)); simp only [Act.put, List.setIfInBounds_toArray, List.set_cons_zero, List.set_cons_succ]; refine anyR_val Later.pre 2 rfl (by kernel_rfl) (by kernel_rfl) (by kernel_rfl) (fun _ _ _ _ h => h) rfl ?_; apply Exists.intro; refine ⟨fun v1 hv1 => ?_, ?_⟩; (· (go_simp; rfl)); simp only [Act.put, List.setIfInBounds_toArray, List.set_cons_zero, List.set_cons_succ]; refine anyR_val Later.pre 3 rfl (by kernel_rfl) (by kernel_rfl) (by kernel_rfl) (fun _ _ _ _ h => h) rfl ?_; apply Exists.intro; refine ⟨fun v1 hv1 => ?_, ?_⟩; (· (go_simp; rfl)); simp only [Act.put, List.setIfInBounds_toArray, List.set_cons_zero, List.set_cons_succ]; refine anyR_val Later.pre 4 rfl (by kernel_rfl) (by kernel_rfl) (by kernel_rfl) (fun _ _ _ _ h => h) rfl ?_; apply Exists.intro; refine ⟨fun v1 hv1 => ?_, ?_⟩; (· (go_simp; rfl)); simp only [Act.put, List.setIfInBounds_toArray, List.set_cons_zero, List.set_cons_succ]; refine anyR_val Later.pre 5 rfl (by kernel_rfl) (by kernel_rfl) (by kernel_rfl) (fun _ _ _ _ h => h) rfl ?_; apply Exists.intro; refine ⟨fun v1 hv1 => ?_, ?_⟩; (· (go_simp; rfl)); simp only [Act.put, List.setIfInBounds_toArray, List.set_cons_zero, List.set_cons_succ]; refine anyR_val Later.pre 6 rfl (by kernel_rfl) (by kernel_rfl) (by kernel_rfl) (fun _ _ _ _ h => h) rfl ?_; apply Exists.intro; refine ⟨fun v1 hv1 => ?_, ?_⟩; (· (go_simp; rfl)); simp only [Act.put, List.setIfInBounds_toArray, List.set_cons_zero, List.set_cons_succ]; refine anyR_val Later.pre 7 rfl (by kernel_rfl) (by kernel_rfl) (by kernel_rfl) (fun _ _ _ _ h => h) rfl ?_; apply Exists.intro; refine ⟨fun v1 hv1 => ?_, ?_⟩; (· (go_simp; rfl)); simp only [Act.put, List.setIfInBounds_toArray, List.set_cons_zero, List.set_cons_succ]; refine anyR_val Later.pre 8 rfl (by kernel_rfl) (by kernel_rfl) (by kernel_rfl) (fun _ _ _ _ h => h) rfl ?_; apply Exists.intro; refine ⟨fun v1 hv1 => ?_, ?_⟩; (· (go_simp; rfl)); simp only [Act.put, List.setIfInBounds_toArray, List.set_cons_zero, List.set_cons_succ]; refine anyR_val Later.pre 9 rfl (by kernel_rfl) (by kernel_rfl) (by kernel_rfl) (fun _ _ _ _ h => h) rfl ?_; apply Exists.intro; refine ⟨fun v1 hv1 => ?_, ?_⟩; (· (go_simp; rfl)); simp only [Act.put, List.setIfInBounds_toArray, List.set_cons_zero, List.set_cons_succ]; refine anyR_val Later.pre 10 rfl (by kernel_rfl) (by kernel_rfl) (by kernel_rfl) (fun _ _ _ _ h => h) rfl ?_; apply Exists.intro; refine ⟨fun v1 hv1 => ?_, ?_⟩; (· (go_simp; rfl)); simp only [Act.put, List.setIfInBounds_toArray, List.set_cons_zero, List.set_cons_succ]; clear q0 q1 q2 q3 k0 k1; refine anyR_done (by kernel_rfl) (fun V9 hV9 => ?_)
              go_wp2_with fail
              go_ret
              exact ⟨by rw [HVV.out]; rfl, Later.trans hb4 (lr.trans (hV0.trans hV9))⟩
            · go_upto_region 6 with fail; refine anyR_begin (R := Later) Later.pre Later.drew 11 rfl (by kernel_rfl) (fun V0 hV0 => ?_); have q0 : ∀ v, Later V0 v → v.cell? ⟨b, off + k * 2, none⟩ = some (.string _) := (fun v hv => (hV0.trans hv).cell d0); have q1 : ∀ v, Later V0 v → v.cell? ⟨b, off + k * 2 + 1, none⟩ = some (.string _) := (fun v hv => (hV0.trans hv).cell d1); have q2 : ∀ v, Later V0 v → v.cell? ⟨b2, off2 + k * 2, none⟩ = some (.string _) := (fun v hv => (hV0.trans hv).cell e0); have q3 : ∀ v, Later V0 v → v.cell? ⟨b2, off2 + k * 2 + 1, none⟩ = some (.string _) := (fun v hv => (hV0.trans hv).cell e1); clear d0 d1 e0 e1 k0 k1; have k0 : ∀ v, Later V0 v → ∀ j, v.cell? ⟨gc, j, none⟩ = #[Value.string s1, .slice (some ⟨b, off, none⟩) h1.length c1, .slice a3 z1.length c3][j]? := (fun v hv => block_cell (later_keep (lr.trans (hV0.trans hv)) C0.out)); have k1 : ∀ v, Later V0 v → ∀ j, v.cell? ⟨gc + 1, j, none⟩ = #[Value.string s2, .slice (some ⟨b2, off2, none⟩) h2.length c2, .slice a4 z2.length c4][j]? := (fun v hv => block_cell (later_keep (lr.trans (hV0.trans hv)) C1.out)); refine anyR_val Later.pre 0 rfl (by kernel_rfl) (by kernel_rfl) (by kernel_rfl) (fun _ _ _ _ h => h) rfl ?_; apply Exists.intro; refine ⟨fun v1 hv1 => ?_, ?_⟩; (· (go_simp; rfl)); simp only [Act.put, List.setIfInBounds_toArray, List.set_cons_zero, List.set_cons_succ]; refine anyR_val Later.pre 1 rfl (by kernel_rfl) (by kernel_rfl) (by kernel_rfl) (fun _ _ _ _ h => h) rfl ?_; apply Exists.intro; refine ⟨fun v1 hv1 => ?_, ?_⟩; (· (go_simp; rfl)); simp only [Act.put, List.setIfInBounds_toArray, List.set_cons_zero, List.set_cons_succ]; refine anyR_val Later.pre 2 rfl (by kernel_rfl) (by kernel_rfl) (by kernel_rfl) (fun _ _ _ _ h => h) rfl ?_; apply Exists.intro; refine ⟨fun v1 hv1 => ?_, ?_⟩; (· (go_simp; rfl)); simp only [Act.put, List.setIfInBounds_toArray, List.set_cons_zero, List.set_cons_succ]; refine anyR_val Later.pre 3 rfl (by kernel_rfl) (by kernel_rfl) (by kernel_rfl) (fun _ _ _ _ h => h) rfl ?_; apply Exists.intro; refine ⟨fun v1 hv1 => ?_, ?_⟩; (· (go_simp; rfl)); simp only [Act.put, List.setIfInBounds_toArray, List.set_cons_zero, List.set_cons_succ]; refine anyR_val Later.pre 4 rfl (by kernel_rfl) (by kernel_rfl) (by kernel_rfl) (fun _ _ _ _ h => h) rfl ?_; apply Exists.intro; refine ⟨fun v1 hv1 => ?_, ?_⟩; (· (go_simp; rfl)); simp only [Act.put, List.setIfInBounds_toArray, List.set_cons_zero, List.set_cons_succ]; refine anyR_val Later.pre 5 rfl (by kernel_rfl) (by kernel_rfl) (by kernel_rfl) (fun _ _ _ _ h => h) rfl ?_; apply Exists.intro; refine ⟨fun v1 hv1 => ?_, ?_⟩; (· (go_simp; rfl)); simp only [Act.put, List.setIfInBounds_toArray, List.set_cons_zero, List.set_cons_succ]; refine anyR_val Later.pre 6 rfl (by kernel_rfl) (by kernel_rfl) (by kernel_rfl) (fun _ _ _ _ h => h) rfl ?_; apply Exists.intro; refine ⟨fun v1 hv1 => ?_, ?_⟩; (· (go_simp; rfl)); simp only [Act.put, List.setIfInBounds_toArray, List.set_cons_zero, List.set_cons_succ]; refine anyR_val Later.pre 7 rfl (by kernel_rfl) (by kernel_rfl) (by kernel_rfl) (fun _ _ _ _ h => h) rfl ?_; apply Exists.intro; refine ⟨fun v1 hv1 => ?_, ?_⟩; (· (go_simp; rfl)); simp only [Act.put, List.setIfInBounds_toArray, List.set_cons_zero, List.set_cons_succ]; refine anyR_val Later.pre 8 rfl (by kernel_rfl) (by kernel_rfl) (by kernel_rfl) (fun _ _ _ _ h => h) rfl ?_; apply Exists.intro; refine ⟨fun v1 hv1 => ?_, ?_⟩; (· (go_simp; rfl)); simp only [Act.put, List.setIfInBounds_toArray, List.set_cons_zero, List.set_cons_succ]; refine anyR_val Later.pre 9 rfl (by kernel_rfl) (by kernel_rfl) (by kernel_rfl) (fun _ _ _ _ h => h) rfl ?_; apply Exists.intro; refine ⟨fun v1 hv1 => ?_, ?_⟩; (· (go_simp; rfl)); simp only [Act.put, List.setIfInBounds_toArray, List.set_cons_zero, List.set_cons_succ]; refine anyR_val Later.pre 10 rfl (by kernel_rfl) (by kernel_rfl) (by kernel_rfl) (fun _ _ _ _ h => h) rfl ?_; apply Exists.intro; refine ⟨fun v1 hv1 => ?_, ?_⟩; (· (go_simp; rfl)); simp only [Act.put, List.setIfInBounds_toArray, List.set_cons_zero, List.set_cons_succ]; clear q0 q1 q2 q3 k0 k1; refine anyR_done (by kernel_rfl) (fun V9 hV9 => ?_)
              go_wp2_with fail
              go_ret
              exact ⟨by rw [HVV.out]; rfl, Later.trans hb4 (lr.trans (hV0.trans hV9))⟩
        · obtain rfl : k = h1.length := by omega
          have hnl : ¬ ((h1.length : Nat) : Int) < (h1.length : Int) := by omega
          have HVV : Hid (r = true) := by show _ = _; rw [HV2.out, decide_eq_true_eq]; have := heq.out; rw [List.take_length] at this; rw [this, HNE.out, List.take_length]
          go_wp2_with fail
          go_ret
          exact ⟨by rw [HVV.out]; rfl, Later.trans hb4 lr⟩
end Go.Proofs.YtehdgndbloaljaaDoor

/- The law's same; the walk of SipParses. -/
namespace Go.Proofs.YtehdgndbloaljaaDoor
open Go.RowKit Go.Shelf
set_option maxRecDepth 100000
set_option linter.unusedVariables false
set_option linter.unusedSimpArgs false

set_option maxRecDepth 100000 in
set_option maxHeartbeats 4000000 in
theorem lsame14_any (s1 s2 : ByteArray) (v1 v2 b1 b2 : Value) (h1 h2 : List Hr) (z1 z2 : List Int) (w : World) (hH1 : RdM w.heap.size w v1 h1) (hH2 : RdM w.heap.size w v2 h2) (hB1 : Rd w.heap.size w b1 z1) (hB2 : Rd w.heap.size w b2 z2) (hy1 : Mt.By z1) (hy2 : Mt.By z2) (hl : h1.length ≤ 100) :
    Calls Tryd.prog 10 #[.agg #[.string s1, v1, b1], .agg #[.string s2, v2, b2]] w fun e w' => e = .returned (.bool (smM s1 s2 h1 h2 z1 z2)) ∧ Later w w' := by
  obtain ⟨a1, c1, rfl, _, _⟩ := hH1.slice
  obtain ⟨a2, c2, rfl, _, _⟩ := hH2.slice
  obtain ⟨a3, c3, rfl, _, _⟩ := hB1.slice
  obtain ⟨a4, c4, rfl, _, _⟩ := hB2.slice
  have hb4 : Later w ((w.alloc (.cells #[.string s1, .slice a1 h1.length c1, .slice a3 z1.length c3] 25)).alloc (.cells #[.string s2, .slice a2 h2.length c2, .slice a4 z2.length c4] 31)) := ((Below.refl _ _).alloc (Nat.le_refl _) _).alloc (by simp) _
  have C0 := hide (show ((w.alloc (.cells #[.string s1, .slice a1 h1.length c1, .slice a3 z1.length c3] 25)).alloc (.cells #[.string s2, .slice a2 h2.length c2, .slice a4 z2.length c4] 31)).heap[w.heap.size]? = some (.cells #[.string s1, .slice a1 h1.length c1, .slice a3 z1.length c3] 25) from (Below.heap_alloc _ _ _ (by simp)).trans (heap_alloc_new w _))
  have C1 : Hid (((w.alloc (.cells #[.string s1, .slice a1 h1.length c1, .slice a3 z1.length c3] 25)).alloc (.cells #[.string s2, .slice a2 h2.length c2, .slice a4 z2.length c4] 31)).heap[w.heap.size + 1]? = some (.cells #[.string s2, .slice a2 h2.length c2, .slice a4 z2.length c4] 31)) := by
    have := heap_alloc_new (w.alloc (.cells #[.string s1, .slice a1 h1.length c1, .slice a3 z1.length c3] 25)) (.cells #[.string s2, .slice a2 h2.length c2, .slice a4 z2.length c4] 31)
    rw [World.size_alloc] at this
    exact this
  have HRF := hide (fun W (l : Later w W) => ref_any s1 _ _ h1 z1 W (hH1.later l) (hB1.later l) hl)
  have HSA := hide (fun W v (l : Later w W) (h : RdM W.heap.size W v h1) => rsame14_any s1 s2 v _ _ _ h1 h2 z1 z2 W h (hH2.later l) (hB1.later l) (hB2.later l) hy1 hy2)
  generalize smM s1 s2 h1 h2 z1 z2 = r at *
  clear hH1 hH2 hB1 hB2 hy1 hy2
  go_enter Tryd.func10, Tryd.ntmps10
  go_upto_region 1 with fail
  generalize (w.alloc (.cells #[.string s1, .slice a1 h1.length c1, .slice a3 z1.length c3] 25)).alloc (.cells #[.string s2, .slice a2 h2.length c2, .slice a4 z2.length c4] 31) = w4 at *
  generalize w.heap.size = gc at C0 C1 ⊢
  refine anyR_begin (R := Later) Later.pre Later.drew 5 rfl (by kernel_rfl) (fun V0 hV0 => ?_)
  have LV : Later w V0 := Later.trans hb4 hV0
  have k0 : ∀ u, Later V0 u → ∀ j, u.cell? ⟨gc, j, none⟩ = (#[.string s1, .slice a1 h1.length c1, .slice a3 z1.length c3] : Array Value)[j]? := fun u hu => block_cell (later_keep (hV0.trans hu) C0.out)
  have k1 : ∀ u, Later V0 u → ∀ j, u.cell? ⟨gc + 1, j, none⟩ = (#[.string s2, .slice a2 h2.length c2, .slice a4 z2.length c4] : Array Value)[j]? := fun u hu => block_cell (later_keep (hV0.trans hu) C1.out)
  refine anyR_val Later.pre 0 rfl (by kernel_rfl) (by kernel_rfl) (by kernel_rfl) (fun _ _ _ _ h => h) rfl ?_; apply Exists.intro; refine ⟨fun v1 hv1 => ?_, ?_⟩; (· (go_simp; rfl)); simp only [Act.put, List.setIfInBounds_toArray, List.set_cons_zero, List.set_cons_succ]
  refine anyR_val Later.pre 2 rfl (by kernel_rfl) (by kernel_rfl) (by kernel_rfl) (fun _ _ _ _ h => h) rfl ?_; apply Exists.intro; refine ⟨fun v1 hv1 => ?_, ?_⟩; (· (go_simp; rfl)); simp only [Act.put, List.setIfInBounds_toArray, List.set_cons_zero, List.set_cons_succ]
  clear k0 k1
  refine anyR_one 1 rfl (by kernel_rfl) (by rfl) (fun V1 hV1 => ?_)
  refine wp_enter 16 #[.agg #[.string s1, .slice a1 h1.length c1, .slice a3 z1.length c3]] (by go_simp) ((HRF.out V1 (LV.trans hV1)).mono ?_)
  rintro e V2 ⟨k2, vh, rfl, hrow⟩
  obtain ⟨va, vc, rfl⟩ := owns_form hrow
  refine ⟨k2, ?_⟩
  simp only [Act.put, List.setIfInBounds_toArray, List.set_cons_zero, List.set_cons_succ]
  have HI := hide (ownR_rd hrow)
  clear hrow
  refine anyR_take Later.pre 3 (.bool r) rfl (by kernel_rfl) (by kernel_rfl) (by kernel_rfl) (fun _ _ _ h => h) rfl (fun u hu => goes_call 23 #[.agg #[.string s1, .slice va h1.length vc, .slice a3 z1.length c3], .agg #[.string s2, .slice a2 h2.length c2, .slice a4 z2.length c4]] (by go_simp) (HSA.out u _ (LV.trans (hV1.trans (k2.trans hu))) (HI.out.later hu))) ?_
  simp only [Act.put, List.setIfInBounds_toArray, List.set_cons_zero, List.set_cons_succ]
  refine anyR_val Later.pre 4 rfl (by kernel_rfl) (by kernel_rfl) (by kernel_rfl) (fun _ _ _ _ h => h) rfl ?_; apply Exists.intro; refine ⟨fun v1 hv1 => ?_, ?_⟩; (· (go_simp; rfl)); simp only [Act.put, List.setIfInBounds_toArray, List.set_cons_zero, List.set_cons_succ]
  refine anyR_done (by kernel_rfl) (fun V9 hV9 => ?_)
  have L9 : Later w V9 := LV.trans (hV1.trans (k2.trans hV9))
  go_wp2_with fail
  go_ret
  exact ⟨rfl, L9⟩
theorem paM_few (zb : List Int) : (paM zb).2.1.length ≤ 100 := by
  by_cases h : 4096 < zb.length
  · rw [(paM_long h).2]; simp
  · cases hp : paO zb with
    | none => rw [(paM_none h hp).2]; simp
    | some m =>
      obtain ⟨st, hs, b⟩ := m
      rw [(paM_some h hp).2]
      unfold paO at hp
      cases hq : prM (strOfNums zb) with
      | none => rw [hq] at hp; cases hp
      | some r =>
        obtain ⟨st', hs', b'⟩ := r
        rw [hq] at hp
        simp only at hp
        split at hp
        · rename_i hr
          cases hp
          unfold rgB rhB at hr
          simp only [Bool.and_eq_true, decide_eq_true_eq] at hr
          have := hr.2.2.1.1
          show hs.length ≤ 100
          omega
        · cases hp

set_option maxRecDepth 100000 in
set_option maxHeartbeats 8000000 in
theorem walk_SipParses (w : World) (hT : TabI w) (hM : TabM w) (sv : Value) (zs : List Int) (hy : Mt.By zs) (hI : Rd w.heap.size w sv zs) (hz : zs.length ≤ 140737488351232) :
    Calls Tryd.prog 3 #[sv] w fun e w' => e = .returned (.bool true) ∧ Below w.heap.size w w' := by
  obtain ⟨i0, hi, hz0, hz1, hz2⟩ := info_partsS info_u8
  obtain ⟨a, cap, rfl, hl, hm⟩ := hI.slice
  have hbA : Below w.heap.size w (w.alloc (.cells #[] 5)) := (Below.refl _ w).alloc (Nat.le_refl _) _
  have HL := hide (fun W (l : Later w W) => live14_any W (hT.later l) (hM.later l))
  have HP1 := hide (fun W v (l : Later w W) (h : Rd W.heap.size W v zs) => parse14_any v zs W (hT.later l) (hM.later l) h hy)
  have HP2 := hide (fun W v (l : Later w W) (h : Rd W.heap.size W v zs) => rparse14_any v zs W h hy)
  have HRW := hide (fun W (l : Later w W) => hI.later l)
  have hfew := paM_few zs
  generalize paM zs = pa at *
  generalize paE zs = pe at *
  obtain ⟨p1, p2, p3⟩ := pa
  simp only at hfew
  have HPB := hide (nmsB_by p3)
  go_enter Tryd.func3, Tryd.ntmps3
  go_upto_region 2 with (at_builtin; refine wpList_app _ rfl (.tmp 8) (.tmp 9) 22 rfl w.heap.size 5 i0 Tryd.underlying22 hi hz0 hz1 hz2 _ [] rfl (own_empty w _) w.heap.size _ zs rfl (hI.below hbA) (by simp; omega) (by simp) ?_; intro v2 w2 hown2 hg2; have hb2 := below_app hbA (own_empty w _) hg2 (Nat.le_refl _) hbA.size; clear hg2; simp only [List.nil_append] at hown2; have hO2 := Ow.of_row hown2; clear hown2; obtain ⟨a2, c2, rfl, _, _⟩ := hO2.slice; have HO2 := hide hO2; clear hO2)
  generalize zs.length = zl at *
  go_wp2_with fail
  refine (HP1.out w2 _ hb2 HO2.out.rd).mono ?_
  rintro e w3 ⟨l3, v, rfl, hq⟩
  obtain ⟨vh3, vb3, rfl, hI3, hR3⟩ := hq
  obtain ⟨ha3, hc3, rfl, _, _⟩ := hI3.slice
  obtain ⟨xa3, xc3, rfl, _, _⟩ := hR3.slice
  have L3 : Later w w3 := Below.trans hb2 (l3.mono hb2.size)
  simp only at hI3 hR3
  have HI3 := hide (fun W (l : Later w3 W) => hI3.later l)
  have HR3 := hide (fun W (l : Later w3 W) => hR3.later l)
  clear hI3 hR3
  have la := later_allocR w3 (.cells #[.string p1, .slice ha3 p2.length hc3, .slice xa3 (nmsB p3).length xc3] 25)
  have CA := hide (heap_alloc_new w3 (.cells #[.string p1, .slice ha3 p2.length hc3, .slice xa3 (nmsB p3).length xc3] 25))
  go_upto_region 3 with fail
  change Code.wp _ _ _ _ (w3.alloc (.cells #[.string p1, .slice ha3 p2.length hc3, .slice xa3 (nmsB p3).length xc3] 25))
  generalize w3.alloc (.cells #[.string p1, .slice ha3 p2.length hc3, .slice xa3 (nmsB p3).length xc3] 25) = w4 at *
  generalize w3.heap.size = ga at *
  have L4 : Later w w4 := L3.trans la
  go_wp2_with fail
  refine (HP2.out w4 _ L4 (HRW.out w4 L4)).mono ?_
  rintro e w5 ⟨l5, v, rfl, hq⟩
  obtain ⟨vh5, vb5, rfl, hI5, hR5⟩ := hq
  obtain ⟨ha5, hc5, rfl, _, _⟩ := hI5.slice
  obtain ⟨xa5, xc5, rfl, _, _⟩ := hR5.slice
  simp only at hI5 hR5
  have HI5 := hide (fun W (l : Later w5 W) => hI5.later l)
  have HR5 := hide (fun W (l : Later w5 W) => hR5.later l)
  clear hI5 hR5
  have lb := later_allocR w5 (.cells #[.string p1, .slice ha5 p2.length hc5, .slice xa5 (nmsB p3).length xc5] 31)
  have CB := hide (heap_alloc_new w5 (.cells #[.string p1, .slice ha5 p2.length hc5, .slice xa5 (nmsB p3).length xc5] 31))
  go_upto_region 4 with fail
  change Code.wp _ _ _ _ (w5.alloc (.cells #[.string p1, .slice ha5 p2.length hc5, .slice xa5 (nmsB p3).length xc5] 31))
  generalize w5.alloc (.cells #[.string p1, .slice ha5 p2.length hc5, .slice xa5 (nmsB p3).length xc5] 31) = w6 at *
  generalize w5.heap.size = gb at *
  have L6 : Later w w6 := L4.trans (l5.trans lb)
  have CA6 := hide (later_keep (l5.trans lb) CA.out)
  go_wp2_with fail
  refine (HL.out w6 L6).mono ?_
  rintro e w7 ⟨rfl, l7⟩
  have L7 : Later w w7 := L6.trans l7
  have ka := block_cell (later_keep l7 CA6.out)
  have kb := block_cell (later_keep l7 CB.out)
  have HSM := hide (lsame14_any p1 p1 _ _ _ _ p2 p2 (nmsB p3) (nmsB p3) w7 (HI3.out w7 (la.trans (l5.trans (lb.trans l7)))) (HI5.out w7 (lb.trans l7)) (HR3.out w7 (la.trans (l5.trans (lb.trans l7)))) (HR5.out w7 (lb.trans l7)) HPB.out HPB.out hfew)
  rw [smM_self] at HSM
  go_wp2_with fail
  refine HSM.out.mono ?_
  rintro e w8 ⟨rfl, l8⟩
  clear ka kb
  have L8 : Later w w8 := L7.trans l8
  have c1 := conv_rd 22 9 5 Tryd.underlying22 Tryd.underlying5 Tryd.underlying9 (HO2.out.rd.later (l3.trans (la.trans (l5.trans (lb.trans (l7.trans l8))))))
  have c2' := conv_rd 22 9 5 Tryd.underlying22 Tryd.underlying5 Tryd.underlying9 (HRW.out w8 L8)
  have hpe : (pe == pe) = true := by simp
  generalize strOfNums zs = s2 at *
  have hsq : (s2.toList == s2.toList) = true := by simp
  go_wp2_with fail
  go_ret
  exact ⟨rfl, L8⟩
end Go.Proofs.YtehdgndbloaljaaDoor
