/- Several texts in one. -/
import Derived.Test.YtifdocjagnhncaaDoorX2
import Derived.Deep.Cut
import Derived.Test.YtifdocjagnhncaaDoorRh
/- The document's size and Right. -/
namespace Go.Proofs.YtifdocjagnhncaaDoor
open Go.RowKit Go.Shelf
set_option maxRecDepth 100000
set_option linter.unusedVariables false
set_option linter.unusedSimpArgs false

/-- A size: more than 4096 or not, as the message's. -/
def SzQ (n : Nat) (e : Ending) : Prop := ∃ r : Int, e = .returned (.int .i64 r) ∧ decide (4096 < r) = decide (4096 < n)

set_option maxRecDepth 100000 in
set_option maxHeartbeats 8000000 in
theorem rsize_any (st : ByteArray) (hs : List Hr) (sv sb : Value) (zb : List Int) (w : World) (hI : RdM w.heap.size w sv hs) (hB : Rd w.heap.size w sb zb) (hz : szM st hs zb.length ≤ 9000000000000000000) :
    Calls Tryd.prog 31 #[.agg #[.string st, sv, sb]] w fun e w' => SzQ (szM st hs zb.length) e ∧ Later w w' := by
  obtain ⟨ah, ch, rfl, hl1, hm1⟩ := hI.slice
  obtain ⟨ab, cb, rfl, hl2, hm2⟩ := hB.slice
  have l0 : Later w (w.alloc (.cells #[.string st, .slice ah hs.length ch, .slice ab zb.length cb] 31)) := later_allocR _ _
  have C0 := hide (heap_alloc_new w (.cells #[.string st, .slice ah hs.length ch, .slice ab zb.length cb] 31))
  have HL := hsz_len hs
  have HZ : Hid (szM st hs zb.length = st.size + 2 + hsz hs + 2 + zb.length) := rfl
  have hz2 : st.size + 2 + hsz hs + 2 + zb.length ≤ 9000000000000000000 := hz
  generalize szM st hs zb.length = sz at *
  go_enter Tryd.func31, Tryd.ntmps31
  go_upto_region 1 with fail
  generalize w.alloc _ = w0 at *
  have HI := hide (hI.later l0)
  generalize w.heap.size = gm at *
  have k0 := block_cell C0.out
  go_upto_region 3 with fail
  clear k0
  go_loopw [3, 4] (fun nv iv wr => ∃ k : Nat, k ≤ hs.length ∧ iv = .int .i64 (k : Int) ∧ nv = .int .i64 ((st.size + 4 + zb.length + hsz (hs.take k) : Nat) : Int) ∧ Later w0 wr) (fun _ iv _ => hs.length - (intOf iv).toNat)
  case atStart => exact ⟨0, by omega, rfl, by simp [hsz], Later.refl _⟩
  case round =>
    obtain ⟨k, hk, rfl, rfl, lr⟩ := hrel
    have hle0 := hsz_take_le hs k
    have k1 := block_cell (later_keep lr C0.out)
    by_cases hlt : k < hs.length
    · have hlt' : (k : Int) < (hs.length : Int) := by omega
      by_cases h4 : st.size + 4 + zb.length + hsz (hs.take k) ≤ 4096
      · have h4' : ((st.size + 4 + zb.length + hsz (hs.take k) : Nat) : Int) ≤ 4096 := by omega
        obtain ⟨b, off, cp, e, _, _, hbn, hcs⟩ := (HI.out.below lr).cells (by omega)
        cases e
        have d0 := hcs k hlt 0 (by omega)
        have d1 := hcs k hlt 1 (by omega)
        have hsn : hs.take (k + 1) = hs.take k ++ [hs[k]] := by rw [← List.take_append_getElem hlt]
        have hsz1 : hsz (hs.take (k + 1)) = hsz (hs.take k) + (hs[k].1.size + 2 + hs[k].2.size + 2) := by rw [hsn, hsz_snoc]
        have hle := hsz_take_le hs (k + 1)
        clear hcs hsn
        generalize hs[k] = r at *
        obtain ⟨x, y⟩ := r
        simp only [hrc, List.getElem?_cons_zero, List.getElem?_cons_succ, Nat.add_zero] at d0 d1 hsz1
        have HS1 := hide hsz1
        rw [hsz1] at hle
        clear hsz1 h4 hle0
        generalize hn0 : st.size + 4 + zb.length + hsz (hs.take k) = n0 at *
        have HN0 := hide hn0
        have hxy : n0 + (x.size + y.size + 4) ≤ 9000000000000000000 := by omega
        clear hn0 hle
        go_upto_region 5 with fail
        clear k1
        refine anyR_begin (R := Later) Later.pre Later.drew 19 rfl (by kernel_rfl) (fun V0 hV0 => ?_)
        have k1 : ∀ v, Later V0 v → ∀ j, v.cell? ⟨gm, j, none⟩ = #[.string st, .slice (some ⟨b, off, none⟩) hs.length ch, .slice ab zb.length cb][j]? := fun v hv => block_cell (later_keep (lr.trans (hV0.trans hv)) C0.out)
        have q0 : ∀ v, Later V0 v → v.cell? ⟨b, off + k * 2, none⟩ = some (.string x) := fun v hv => (hV0.trans hv).cell d0
        have q1 : ∀ v, Later V0 v → v.cell? ⟨b, off + k * 2 + 1, none⟩ = some (.string y) := fun v hv => (hV0.trans hv).cell d1
        clear d0 d1
        refine anyR_val Later.pre 0 rfl (by kernel_rfl) (by kernel_rfl) (by kernel_rfl) (fun _ _ _ _ h => h) rfl ?_; apply Exists.intro; refine ⟨fun v1 hv1 => ?_, ?_⟩; (· (go_simp; rfl)); simp only [Act.put, List.setIfInBounds_toArray, List.set_cons_zero, List.set_cons_succ]
        refine anyR_val Later.pre 1 rfl (by kernel_rfl) (by kernel_rfl) (by kernel_rfl) (fun _ _ _ _ h => h) rfl ?_; apply Exists.intro; refine ⟨fun v1 hv1 => ?_, ?_⟩; (· (go_simp; rfl)); simp only [Act.put, List.setIfInBounds_toArray, List.set_cons_zero, List.set_cons_succ]
        refine anyR_val Later.pre 2 rfl (by kernel_rfl) (by kernel_rfl) (by kernel_rfl) (fun _ _ _ _ h => h) rfl ?_; apply Exists.intro; refine ⟨fun v1 hv1 => ?_, ?_⟩; (· (go_simp; rfl)); simp only [Act.put, List.setIfInBounds_toArray, List.set_cons_zero, List.set_cons_succ]
        refine anyR_val Later.pre 3 rfl (by kernel_rfl) (by kernel_rfl) (by kernel_rfl) (fun _ _ _ _ h => h) rfl ?_; apply Exists.intro; refine ⟨fun v1 hv1 => ?_, ?_⟩; (· (go_simp; rfl)); simp only [Act.put, List.setIfInBounds_toArray, List.set_cons_zero, List.set_cons_succ]
        refine anyR_val Later.pre 4 rfl (by kernel_rfl) (by kernel_rfl) (by kernel_rfl) (fun _ _ _ _ h => h) rfl ?_; apply Exists.intro; refine ⟨fun v1 hv1 => ?_, ?_⟩; (· (go_simp; rfl)); simp only [Act.put, List.setIfInBounds_toArray, List.set_cons_zero, List.set_cons_succ]
        refine anyR_val Later.pre 5 rfl (by kernel_rfl) (by kernel_rfl) (by kernel_rfl) (fun _ _ _ _ h => h) rfl ?_; apply Exists.intro; refine ⟨fun v1 hv1 => ?_, ?_⟩; (· (go_simp; rfl)); simp only [Act.put, List.setIfInBounds_toArray, List.set_cons_zero, List.set_cons_succ]
        refine anyR_val Later.pre 6 rfl (by kernel_rfl) (by kernel_rfl) (by kernel_rfl) (fun _ _ _ _ h => h) rfl ?_; apply Exists.intro; refine ⟨fun v1 hv1 => ?_, ?_⟩; (· (go_simp; rfl)); simp only [Act.put, List.setIfInBounds_toArray, List.set_cons_zero, List.set_cons_succ]
        refine anyR_val Later.pre 7 rfl (by kernel_rfl) (by kernel_rfl) (by kernel_rfl) (fun _ _ _ _ h => h) rfl ?_; apply Exists.intro; refine ⟨fun v1 hv1 => ?_, ?_⟩; (· (go_simp; rfl)); simp only [Act.put, List.setIfInBounds_toArray, List.set_cons_zero, List.set_cons_succ]
        refine anyR_val Later.pre 8 rfl (by kernel_rfl) (by kernel_rfl) (by kernel_rfl) (fun _ _ _ _ h => h) rfl ?_; apply Exists.intro; refine ⟨fun v1 hv1 => ?_, ?_⟩; (· (go_simp; rfl)); simp only [Act.put, List.setIfInBounds_toArray, List.set_cons_zero, List.set_cons_succ]
        refine anyR_val Later.pre 9 rfl (by kernel_rfl) (by kernel_rfl) (by kernel_rfl) (fun _ _ _ _ h => h) rfl ?_; apply Exists.intro; refine ⟨fun v1 hv1 => ?_, ?_⟩; (· (go_simp; rfl)); simp only [Act.put, List.setIfInBounds_toArray, List.set_cons_zero, List.set_cons_succ]
        refine anyR_val Later.pre 10 rfl (by kernel_rfl) (by kernel_rfl) (by kernel_rfl) (fun _ _ _ _ h => h) rfl ?_; apply Exists.intro; refine ⟨fun v1 hv1 => ?_, ?_⟩; (· (go_simp; rfl)); simp only [Act.put, List.setIfInBounds_toArray, List.set_cons_zero, List.set_cons_succ]
        refine anyR_val Later.pre 11 rfl (by kernel_rfl) (by kernel_rfl) (by kernel_rfl) (fun _ _ _ _ h => h) rfl ?_; apply Exists.intro; refine ⟨fun v1 hv1 => ?_, ?_⟩; (· (go_simp; rfl)); simp only [Act.put, List.setIfInBounds_toArray, List.set_cons_zero, List.set_cons_succ]
        refine anyR_val Later.pre 12 rfl (by kernel_rfl) (by kernel_rfl) (by kernel_rfl) (fun _ _ _ _ h => h) rfl ?_; apply Exists.intro; refine ⟨fun v1 hv1 => ?_, ?_⟩; (· (go_simp; rfl)); simp only [Act.put, List.setIfInBounds_toArray, List.set_cons_zero, List.set_cons_succ]
        refine anyR_val Later.pre 13 rfl (by kernel_rfl) (by kernel_rfl) (by kernel_rfl) (fun _ _ _ _ h => h) rfl ?_; apply Exists.intro; refine ⟨fun v1 hv1 => ?_, ?_⟩; (· (go_simp; rfl)); simp only [Act.put, List.setIfInBounds_toArray, List.set_cons_zero, List.set_cons_succ]
        refine anyR_val Later.pre 14 rfl (by kernel_rfl) (by kernel_rfl) (by kernel_rfl) (fun _ _ _ _ h => h) rfl ?_; apply Exists.intro; refine ⟨fun v1 hv1 => ?_, ?_⟩; (· (go_simp; rfl)); simp only [Act.put, List.setIfInBounds_toArray, List.set_cons_zero, List.set_cons_succ]
        refine anyR_val Later.pre 15 rfl (by kernel_rfl) (by kernel_rfl) (by kernel_rfl) (fun _ _ _ _ h => h) rfl ?_; apply Exists.intro; refine ⟨fun v1 hv1 => ?_, ?_⟩; (· (go_simp; rfl)); simp only [Act.put, List.setIfInBounds_toArray, List.set_cons_zero, List.set_cons_succ]
        refine anyR_val Later.pre 16 rfl (by kernel_rfl) (by kernel_rfl) (by kernel_rfl) (fun _ _ _ _ h => h) rfl ?_; apply Exists.intro; refine ⟨fun v1 hv1 => ?_, ?_⟩; (· (go_simp; rfl)); simp only [Act.put, List.setIfInBounds_toArray, List.set_cons_zero, List.set_cons_succ]
        refine anyR_val Later.pre 17 rfl (by kernel_rfl) (by kernel_rfl) (by kernel_rfl) (fun _ _ _ _ h => h) rfl ?_; apply Exists.intro; refine ⟨fun v1 hv1 => ?_, ?_⟩; (· (go_simp; rfl)); simp only [Act.put, List.setIfInBounds_toArray, List.set_cons_zero, List.set_cons_succ]
        refine anyR_val Later.pre 18 rfl (by kernel_rfl) (by kernel_rfl) (by kernel_rfl) (fun _ _ _ _ h => h) rfl ?_; apply Exists.intro; refine ⟨fun v1 hv1 => ?_, ?_⟩; (· (go_simp; rfl)); simp only [Act.put, List.setIfInBounds_toArray, List.set_cons_zero, List.set_cons_succ]
        clear k1 q0 q1
        refine anyR_done (by kernel_rfl) (fun V9 hV9 => ?_)
        have L9 : Later w0 V9 := lr.trans (hV0.trans hV9)
        have e1 := wrI (x := (x.size : Int) + (y.size : Int)) (by omega) (by omega)
        have e2 := wrI (x := (x.size : Int) + (y.size : Int) + 4) (by omega) (by omega)
        have e3 := wrI (x := (n0 : Int) + ((x.size : Int) + (y.size : Int) + 4)) (by omega) (by omega)
        simp only [e1, e2, e3]
        clear e1 e2 e3
        go_wp2_with fail
        go_roundw
        case rel => exact ⟨k + 1, by omega, by go_num, by rw [HS1.out]; congr 1; have := HN0.out; omega, L9⟩
        case measure => simp [intOf]; omega
      · have h4' : ¬ ((st.size + 4 + zb.length + hsz (hs.take k) : Nat) : Int) ≤ 4096 := by omega
        have HV : Hid (decide (4096 < ((st.size + 4 + zb.length + hsz (hs.take k) : Nat) : Int)) = decide (4096 < sz)) := by show _ = _; rw [decide_eq_true (by omega), decide_eq_true (by have := HZ.out; omega)]
        clear h4
        generalize st.size + 4 + zb.length + hsz (hs.take k) = n0 at *
        go_wp2_with fail
        go_ret
        exact ⟨⟨_, rfl, HV.out⟩, Later.trans l0 lr⟩
    · obtain rfl : k = hs.length := by omega
      have hnl : ¬ ((hs.length : Nat) : Int) < (hs.length : Int) := by omega
      rw [List.take_length]
      have HV : Hid (decide (4096 < ((st.size + 4 + zb.length + hsz hs : Nat) : Int)) = decide (4096 < sz)) := by show _ = _; rw [decide_eq_decide]; have := HZ.out; omega
      generalize st.size + 4 + zb.length + hsz hs = n0 at *
      go_wp2_with fail
      go_ret
      exact ⟨⟨_, rfl, HV.out⟩, Later.trans l0 lr⟩

/-- A value with a blank ahead or behind. -/
theorem vl_blank (v : ByteArray) (h : v.size ≠ 0) : (Lib.hasPrefix v.data.toList [32] = (bAt v 0 == 32)) ∧ (Lib.hasSuffix v.data.toList [32] = (bAt v (v.size - 1) == 32)) := by
  have hl : v.data.toList.length = v.size := (ba_len v).symm
  constructor
  · unfold Lib.hasPrefix bAt
    cases hv : v.data.toList with
    | nil => rw [hv] at hl; simp at hl; omega
    | cons a l =>
      have : v.get! 0 = a := by
        have h0 : 0 < v.data.size := by show 0 < v.size; omega
        simp only [ByteArray.get!]
        rw [getElem!_pos v.data 0 h0, ← Array.getElem_toList]
        simp [hv]
      rw [this, Bool.eq_iff_iff]
      simp only [List.isPrefixOf, Bool.and_true, beq_iff_eq]
      constructor
      · intro e; rw [← e]; rfl
      · intro e; apply UInt8.toNat_inj.1; have : (32 : UInt8).toNat = 32 := rfl; omega
  · unfold Lib.hasSuffix bAt
    have hne : v.data.toList ≠ [] := fun e => by rw [e] at hl; simp at hl; omega
    have hdl : v.data.toList = v.data.toList.dropLast ++ [v.data.toList.getLast hne] := (List.dropLast_concat_getLast hne).symm
    have hga : v.get! (v.size - 1) = v.data.toList.getLast hne := by
      have h0 : v.size - 1 < v.data.size := by show _ < v.size; omega
      simp only [ByteArray.get!]
      rw [getElem!_pos v.data (v.size - 1) h0, List.getLast_eq_getElem, ← Array.getElem_toList]
      congr 1
    rw [hga, Bool.eq_iff_iff, List.isSuffixOf_iff_suffix, beq_iff_eq]
    generalize v.data.toList.getLast hne = a at *
    constructor
    · rintro ⟨t, ht⟩
      rw [hdl] at ht
      have := (List.append_inj' ht rfl).2
      simp only [List.cons.injEq, and_true] at this
      rw [← this]; rfl
    · intro e
      have : a = 32 := by apply UInt8.toNat_inj.1; have : (32 : UInt8).toNat = 32 := rfl; omega
      exact ⟨v.data.toList.dropLast, by rw [hdl, this]; simp⟩
end Go.Proofs.YtifdocjagnhncaaDoor

/- The document's Right. -/
namespace Go.Proofs.YtifdocjagnhncaaDoor
open Go.RowKit Go.Shelf
set_option maxRecDepth 100000
set_option linter.unusedVariables false
set_option linter.unusedSimpArgs false

set_option maxRecDepth 100000 in
set_option maxHeartbeats 16000000 in
theorem rright14_any (st : ByteArray) (hs : List Hr) (sv sb : Value) (zb : List Int) (w : World) (hI : RdM w.heap.size w sv hs) (hB : Rd w.heap.size w sb zb) (hz : szM st hs zb.length ≤ 9000000000000000000) (hzs : st.size ≤ 140737488355328 ∧ ∀ h ∈ hs, h.1.size ≤ 140737488355328 ∧ h.2.size ≤ 140737488355328) :
    Calls Tryd.prog 17 #[.agg #[.string st, sv, sb]] w fun e w' => e = .returned (.bool (rgB st hs zb.length)) ∧ Later w w' := by
  obtain ⟨ah, ch, rfl, hl1, hm1⟩ := hI.slice
  obtain ⟨ab, cb, rfl, hl2, hm2⟩ := hB.slice
  have HR : Hid (rgB st hs zb.length = (allB lnC st && (!(st.size == 0) && ((decide (hs.length ≤ 64) && (hs.all (okh zb.length) && decide (hs.countP (fun h => swV h.1 clN) = 1))) && decide (szM st hs zb.length ≤ 4096))))) := rfl
  generalize rgB st hs zb.length = r at *
  have l0 : Later w (w.alloc (.cells #[.string st, .slice ah hs.length ch, .slice ab zb.length cb] 31)) := later_allocR _ _
  have C0 := hide (heap_alloc_new w (.cells #[.string st, .slice ah hs.length ch, .slice ab zb.length cb] 31))
  have hzz : hsz hs ≤ 9000000000000000000 := by unfold szM at hz; omega
  have HSZ := hide (fun W (l : Later w W) => rsize_any st hs _ _ zb W (hI.later l) (hB.later l) hz)
  generalize szM st hs zb.length = sz at *
  go_enter Tryd.func17, Tryd.ntmps17
  go_upto_region 1 with fail
  generalize w.alloc _ = w0 at *
  have HI := hide (hI.later l0)
  generalize w.heap.size = gm at *
  have k0 := block_cell C0.out
  by_cases hs0 : st.size = 0
  · have HE : Hid (r = false) := by show _ = _; rw [HR.out, hs0]; simp
    obtain rfl := str_empty st hs0
    go_wp2_with fail
    go_ret
    exact ⟨by rw [HE.out]; rfl, l0⟩
  have hne := str_ne hs0
  have HR2 : Hid (r = (allB lnC st && ((decide (hs.length ≤ 64) && (hs.all (okh zb.length) && decide (hs.countP (fun h => swV h.1 clN) = 1))) && decide (sz ≤ 4096)))) := by show _ = _; rw [HR.out, show (st.size == 0) = false from by simpa using hs0]; rfl
  clear HR hs0
  go_wp2_with fail
  refine (rplain_any st w0 (by omega)).mono ?_
  generalize allB lnC st = b1 at *
  rintro e w1 ⟨rfl, hw⟩
  rw [hw]
  clear hw w1
  cases b1 with
  | false =>
    go_wp2_with fail
    go_ret
    exact ⟨by rw [HR2.out]; rfl, l0⟩
  | true =>
    by_cases h64 : hs.length ≤ 64
    case neg =>
      have h1 : (64 : Int) < (hs.length : Int) := by omega
      have HE : Hid (r = false) := by show _ = _; rw [HR2.out]; simp [h64]
      go_wp2_with fail
      go_ret
      exact ⟨by rw [HE.out]; rfl, l0⟩
    have h1 : ¬ (64 : Int) < (hs.length : Int) := by omega
    go_wp2_with fail
    refine (HSZ.out w0 l0).mono ?_
    rintro e w2 ⟨⟨rr, rfl, hrr⟩, l2⟩
    clear k0
    by_cases hb : sz ≤ 4096
    case neg =>
      have h2 : 4096 < rr := by rw [decide_eq_true (by omega : 4096 < sz)] at hrr; exact of_decide_eq_true hrr
      have HE : Hid (r = false) := by show _ = _; rw [HR2.out]; simp [hb]
      clear hrr
      go_wp2_with fail
      go_ret
      exact ⟨by rw [HE.out]; rfl, Later.trans l0 l2⟩
    have h2 : ¬ 4096 < rr := by rw [decide_eq_false (by omega : ¬ 4096 < sz)] at hrr; exact of_decide_eq_false hrr
    have HR3 : Hid (r = (hs.all (okh zb.length) && decide (hs.countP (fun h => swV h.1 clN) = 1))) := by show _ = _; rw [HR2.out]; simp [h64, hb]
    have C2 := hide (later_keep l2 C0.out)
    have L2 : Later w w2 := Later.trans l0 l2
    have HI2 := hide (HI.out.later l2)
    clear HR2 hrr C0 HSZ
    go_upto_region 5 with fail
    clear h1 h2
    go_loopw [3, 4, 5, 6] (fun nv iv pv vv wr => ∃ k : Nat, k ≤ hs.length ∧ iv = .int .i64 (k : Int) ∧ nv = .int .i64 (((hs.take k).countP (fun h => swV h.1 clN) : Nat) : Int) ∧ Later w2 wr ∧ Hid ((hs.take k).all (okh zb.length) = true)) (fun _ iv _ _ _ => hs.length - (intOf iv).toNat)
    case atStart => exact ⟨0, by omega, rfl, rfl, Later.refl _, hide rfl⟩
    case round =>
      obtain ⟨k, hk, rfl, rfl, lr, hal⟩ := hrel
      have k1 := block_cell (later_keep lr C2.out)
      by_cases hlt : k < hs.length
      · have hlt' : (k : Int) < (hs.length : Int) := by omega
        obtain ⟨b, off, cp, e, _, _, hbn, hcs⟩ := (HI2.out.below lr).cells (by omega)
        cases e
        have d0 := hcs k hlt 0 (by omega)
        have d1 := hcs k hlt 1 (by omega)
        have hsn : hs.take (k + 1) = hs.take k ++ [hs[k]] := by rw [← List.take_append_getElem hlt]
        have hmem := List.getElem_mem hlt
        have hzm := hzs.2 _ hmem
        have HNO : Hid (okh zb.length hs[k] = false → r = false) := fun h => by
          rw [HR3.out]
          have : hs.all (okh zb.length) = false := by rw [List.all_eq_false]; exact ⟨hs[k], hmem, by simp [h]⟩
          rw [this]; rfl
        have HYE : Hid (okh zb.length hs[k] = true → (hs.take (k + 1)).all (okh zb.length) = true) := fun h => by rw [hsn, List.all_append, hal.out]; simp [h]
        have HCT : Hid ((hs.take (k + 1)).countP (fun h => swV h.1 clN) = (hs.take k).countP (fun h => swV h.1 clN) + (if swV hs[k].1 clN = true then 1 else 0)) := by show _ = _; rw [hsn, List.countP_append]; simp [List.countP_cons]
        have hcl : (hs.take k).countP (fun h => swV h.1 clN) ≤ k := by
          have := List.countP_le_length (p := fun h : Hr => swV h.1 clN) (l := hs.take k)
          rw [List.length_take] at this
          omega
        clear hcs hsn hmem
        generalize hs[k] = rr at *
        obtain ⟨x, y⟩ := rr
        simp only [hrc, List.getElem?_cons_zero, List.getElem?_cons_succ, Nat.add_zero] at d0 d1 hzm HCT
        have HOK : Hid (okh zb.length (x, y) = (allN nmC x && ((allB lnC y && (!Lib.hasPrefix y.data.toList [32] && !Lib.hasSuffix y.data.toList [32])) && (!swV x clN || eqS y (decB zb.length))))) := rfl
        rw [HOK.out] at HNO HYE
        clear HOK
        generalize (hs.take k).countP (fun h => swV h.1 clN) = c at *
        have la := later_allocR wr (.cells #[.string x, .string y] 62)
        have B1 := hide (heap_alloc_new wr (.cells #[.string x, .string y] 62))
        go_upto_region 8 with fail
        clear d0 d1 k1
        generalize wr.alloc _ = wq at *
        generalize wr.heap.size = gh at *
        have lq := lr.trans la
        have k1 := block_cell B1.out
        go_wp2_with fail
        refine (rname_any x wq (by omega)).mono ?_
        generalize allN nmC x = b1 at *
        rintro e w1 ⟨rfl, hw⟩
        rw [hw]
        clear hw w1
        cases b1 with
        | false =>
          have HVV := hide (HNO.out rfl)
          clear HNO HYE
          go_wp2_with fail
          go_ret
          exact ⟨by rw [HVV.out]; rfl, L2.trans lq⟩
        | true =>
          go_wp2_with fail
          refine (rplain_any y wq (by omega)).mono ?_
          generalize allB lnC y = b2 at *
          rintro e w1 ⟨rfl, hw⟩
          rw [hw]
          clear hw w1
          cases b2 with
          | false =>
            have HVV := hide (HNO.out rfl)
            clear HNO HYE
            go_wp2_with fail
            go_ret
            exact ⟨by rw [HVV.out]; rfl, L2.trans lq⟩
          | true =>
            by_cases hy0 : y.size = 0
            · have e1 : Lib.hasPrefix y.data.toList [32] = false := by rw [str_empty y hy0]; rfl
              have e2 : Lib.hasSuffix y.data.toList [32] = false := by rw [str_empty y hy0]; rfl
              rw [e1, e2] at HNO HYE
              clear e1 e2
              have hye : y.toList.isEmpty = true := by rw [str_empty y hy0, ByteArray.toList_eq]; rfl
              clear hy0
              go_upto_region 13 with fail
              clear k1
              have k1 := block_cell B1.out
              have HLC := hide (low_cl x)
              have HLW := hide (rlower_any x wq (by omega))
              generalize strOfNums (lowZ x) = lx at *
              generalize swV x clN = b3 at *
              have hlc : (lx.toList == [99, 111, 110, 116, 101, 110, 116, 45, 108, 101, 110, 103, 116, 104]) = b3 := by rw [← HLC.out, ByteArray.toList_eq ⟨#[99, 111, 110, 116, 101, 110, 116, 45, 108, 101, 110, 103, 116, 104]⟩]
              go_wp2_with fail
              refine HLW.out.mono ?_
              rintro e w3 ⟨rfl, l3⟩
              clear k1
              cases b3 with
              | false =>
                have HYY := hide (HYE.out rfl)
                clear HNO HYE
                go_wp2_with fail
                go_roundw
                case rel => exact ⟨k + 1, by omega, by go_num, by rw [HCT.out]; rfl, lq.trans l3, HYY⟩
                case measure => simp [intOf]; omega
              | true =>
                have hc1 : (c : Int) ≤ 64 := by omega
                go_upto_region 15 with fail
                clear hlc
                have B3 := hide (later_keep l3 B1.out)
                have C3 := hide (later_keep (lq.trans l3) C2.out)
                refine anyR_begin (R := Later) Later.pre Later.drew 7 rfl (by kernel_rfl) (fun V0 hV0 => ?_)
                have qH : ∀ v, Later V0 v → ∀ j, v.cell? ⟨gh, j, none⟩ = #[Value.string x, .string y][j]? := fun v hv => block_cell (later_keep (hV0.trans hv) B3.out)
                have qM : ∀ v, Later V0 v → ∀ j, v.cell? ⟨gm, j, none⟩ = #[Value.string st, .slice (some ⟨b, off, none⟩) hs.length ch, .slice ab zb.length cb][j]? := fun v hv => block_cell (later_keep (hV0.trans hv) C3.out)
                refine anyR_val Later.pre 0 rfl (by kernel_rfl) (by kernel_rfl) (by kernel_rfl) (fun _ _ _ _ h => h) rfl ?_; apply Exists.intro; refine ⟨fun v1 hv1 => ?_, ?_⟩; (· (go_simp; rfl)); simp only [Act.put, List.setIfInBounds_toArray, List.set_cons_zero, List.set_cons_succ]
                refine anyR_val Later.pre 1 rfl (by kernel_rfl) (by kernel_rfl) (by kernel_rfl) (fun _ _ _ _ h => h) rfl ?_; apply Exists.intro; refine ⟨fun v1 hv1 => ?_, ?_⟩; (· (go_simp; rfl)); simp only [Act.put, List.setIfInBounds_toArray, List.set_cons_zero, List.set_cons_succ]
                refine anyR_val Later.pre 2 rfl (by kernel_rfl) (by kernel_rfl) (by kernel_rfl) (fun _ _ _ _ h => h) rfl ?_; apply Exists.intro; refine ⟨fun v1 hv1 => ?_, ?_⟩; (· (go_simp; rfl)); simp only [Act.put, List.setIfInBounds_toArray, List.set_cons_zero, List.set_cons_succ]
                refine anyR_val Later.pre 3 rfl (by kernel_rfl) (by kernel_rfl) (by kernel_rfl) (fun _ _ _ _ h => h) rfl ?_; apply Exists.intro; refine ⟨fun v1 hv1 => ?_, ?_⟩; (· (go_simp; rfl)); simp only [Act.put, List.setIfInBounds_toArray, List.set_cons_zero, List.set_cons_succ]
                refine anyR_val Later.pre 4 rfl (by kernel_rfl) (by kernel_rfl) (by kernel_rfl) (fun _ _ _ _ h => h) rfl ?_; apply Exists.intro; refine ⟨fun v1 hv1 => ?_, ?_⟩; (· (go_simp; rfl)); simp only [Act.put, List.setIfInBounds_toArray, List.set_cons_zero, List.set_cons_succ]
                refine anyR_take Later.pre 5 (.string (decB zb.length)) rfl (by kernel_rfl) (by kernel_rfl) (by kernel_rfl) (fun _ _ _ h => h) rfl (fun v1 hv1 => goes_call 34 #[.int .i64 (zb.length : Int)] (by go_simp) (rdigits_any zb.length (by omega) v1)) ?_
                simp only [Act.put, List.setIfInBounds_toArray, List.set_cons_zero, List.set_cons_succ]
                refine anyR_val Later.pre 6 rfl (by kernel_rfl) (by kernel_rfl) (by kernel_rfl) (fun _ _ _ _ h => h) rfl ?_; apply Exists.intro; refine ⟨fun v1 hv1 => ?_, ?_⟩; (· (go_simp; rfl)); simp only [Act.put, List.setIfInBounds_toArray, List.set_cons_zero, List.set_cons_succ]
                clear qH qM
                refine anyR_done (by kernel_rfl) (fun V9 hV9 => ?_)
                have L9 := lq.trans (l3.trans (hV0.trans hV9))
                rw [str_beq y (decB zb.length)]
                generalize eqS y (decB zb.length) = b4 at *
                cases b4 with
                | false =>
                  have HVV := hide (HNO.out rfl)
                  clear HNO HYE
                  go_wp2_with fail
                  go_ret
                  exact ⟨by rw [HVV.out]; rfl, L2.trans L9⟩
                | true =>
                  have HYY := hide (HYE.out rfl)
                  clear HNO HYE
                  go_wp2_with fail
                  go_roundw
                  case rel => exact ⟨k + 1, by omega, by go_num, by rw [HCT.out]; go_num, L9, HYY⟩
                  case measure => simp [intOf]; omega
            · have hyn := str_ne hy0
              obtain ⟨e1, e2⟩ := vl_blank y hy0
              rw [e1, e2] at HNO HYE
              clear e1 e2
              have hp0 : 0 < y.size := by omega
              have hp0' : (0 : Int) < (y.size : Int) := by omega
              have hq0 : y.size - 1 < y.size := by omega
              have g1 := bAt_get y 0 hp0
              have g2 := bAt_get y (y.size - 1) hq0
              rw [← g1, ← g2] at HNO HYE
              clear g1 g2 hy0
              have hys : (y.size : Int) - 1 = ((y.size - 1 : Nat) : Int) := by omega
              have hys2 : ((y.size - 1 : Nat) : Int) < (y.size : Int) := by omega
              have hyb : (y.size : Int) ≤ 140737488355328 := by omega
              cases hb1 : (((y[0]'hp0).toNat : Nat) : Int) == 32 with
              | true =>
                rw [hb1] at HNO HYE
                have HVV := hide (HNO.out rfl)
                clear HNO HYE
                go_wp2_with fail
                go_ret
                exact ⟨by rw [HVV.out]; rfl, L2.trans lq⟩
              | false =>
                rw [hb1] at HNO HYE
                cases hb2 : (((y[y.size - 1]'hq0).toNat : Nat) : Int) == 32 with
                | true =>
                  rw [hb2] at HNO HYE
                  have HVV := hide (HNO.out rfl)
                  clear HNO HYE
                  go_wp2_with fail
                  go_ret
                  exact ⟨by rw [HVV.out]; rfl, L2.trans lq⟩
                | false =>
                  rw [hb2] at HNO HYE
                  go_upto_region 13 with fail
                  clear k1
                  have k1 := block_cell B1.out
                  have HLC := hide (low_cl x)
                  have HLW := hide (rlower_any x wq (by omega))
                  generalize strOfNums (lowZ x) = lx at *
                  generalize swV x clN = b3 at *
                  have hlc : (lx.toList == [99, 111, 110, 116, 101, 110, 116, 45, 108, 101, 110, 103, 116, 104]) = b3 := by rw [← HLC.out, ByteArray.toList_eq ⟨#[99, 111, 110, 116, 101, 110, 116, 45, 108, 101, 110, 103, 116, 104]⟩]
                  go_wp2_with fail
                  refine HLW.out.mono ?_
                  rintro e w3 ⟨rfl, l3⟩
                  clear k1
                  cases b3 with
                  | false =>
                    have HYY := hide (HYE.out rfl)
                    clear HNO HYE
                    go_wp2_with fail
                    go_roundw
                    case rel => exact ⟨k + 1, by omega, by go_num, by rw [HCT.out]; rfl, lq.trans l3, HYY⟩
                    case measure => simp [intOf]; omega
                  | true =>
                    have hc1 : (c : Int) ≤ 64 := by omega
                    go_upto_region 15 with fail
                    clear hlc
                    have B3 := hide (later_keep l3 B1.out)
                    have C3 := hide (later_keep (lq.trans l3) C2.out)
                    refine anyR_begin (R := Later) Later.pre Later.drew 7 rfl (by kernel_rfl) (fun V0 hV0 => ?_)
                    have qH : ∀ v, Later V0 v → ∀ j, v.cell? ⟨gh, j, none⟩ = #[Value.string x, .string y][j]? := fun v hv => block_cell (later_keep (hV0.trans hv) B3.out)
                    have qM : ∀ v, Later V0 v → ∀ j, v.cell? ⟨gm, j, none⟩ = #[Value.string st, .slice (some ⟨b, off, none⟩) hs.length ch, .slice ab zb.length cb][j]? := fun v hv => block_cell (later_keep (hV0.trans hv) C3.out)
                    refine anyR_val Later.pre 0 rfl (by kernel_rfl) (by kernel_rfl) (by kernel_rfl) (fun _ _ _ _ h => h) rfl ?_; apply Exists.intro; refine ⟨fun v1 hv1 => ?_, ?_⟩; (· (go_simp; rfl)); simp only [Act.put, List.setIfInBounds_toArray, List.set_cons_zero, List.set_cons_succ]
                    refine anyR_val Later.pre 1 rfl (by kernel_rfl) (by kernel_rfl) (by kernel_rfl) (fun _ _ _ _ h => h) rfl ?_; apply Exists.intro; refine ⟨fun v1 hv1 => ?_, ?_⟩; (· (go_simp; rfl)); simp only [Act.put, List.setIfInBounds_toArray, List.set_cons_zero, List.set_cons_succ]
                    refine anyR_val Later.pre 2 rfl (by kernel_rfl) (by kernel_rfl) (by kernel_rfl) (fun _ _ _ _ h => h) rfl ?_; apply Exists.intro; refine ⟨fun v1 hv1 => ?_, ?_⟩; (· (go_simp; rfl)); simp only [Act.put, List.setIfInBounds_toArray, List.set_cons_zero, List.set_cons_succ]
                    refine anyR_val Later.pre 3 rfl (by kernel_rfl) (by kernel_rfl) (by kernel_rfl) (fun _ _ _ _ h => h) rfl ?_; apply Exists.intro; refine ⟨fun v1 hv1 => ?_, ?_⟩; (· (go_simp; rfl)); simp only [Act.put, List.setIfInBounds_toArray, List.set_cons_zero, List.set_cons_succ]
                    refine anyR_val Later.pre 4 rfl (by kernel_rfl) (by kernel_rfl) (by kernel_rfl) (fun _ _ _ _ h => h) rfl ?_; apply Exists.intro; refine ⟨fun v1 hv1 => ?_, ?_⟩; (· (go_simp; rfl)); simp only [Act.put, List.setIfInBounds_toArray, List.set_cons_zero, List.set_cons_succ]
                    refine anyR_take Later.pre 5 (.string (decB zb.length)) rfl (by kernel_rfl) (by kernel_rfl) (by kernel_rfl) (fun _ _ _ h => h) rfl (fun v1 hv1 => goes_call 34 #[.int .i64 (zb.length : Int)] (by go_simp) (rdigits_any zb.length (by omega) v1)) ?_
                    simp only [Act.put, List.setIfInBounds_toArray, List.set_cons_zero, List.set_cons_succ]
                    refine anyR_val Later.pre 6 rfl (by kernel_rfl) (by kernel_rfl) (by kernel_rfl) (fun _ _ _ _ h => h) rfl ?_; apply Exists.intro; refine ⟨fun v1 hv1 => ?_, ?_⟩; (· (go_simp; rfl)); simp only [Act.put, List.setIfInBounds_toArray, List.set_cons_zero, List.set_cons_succ]
                    clear qH qM
                    refine anyR_done (by kernel_rfl) (fun V9 hV9 => ?_)
                    have L9 := lq.trans (l3.trans (hV0.trans hV9))
                    rw [str_beq y (decB zb.length)]
                    generalize eqS y (decB zb.length) = b4 at *
                    cases b4 with
                    | false =>
                      have HVV := hide (HNO.out rfl)
                      clear HNO HYE
                      go_wp2_with fail
                      go_ret
                      exact ⟨by rw [HVV.out]; rfl, L2.trans L9⟩
                    | true =>
                      have HYY := hide (HYE.out rfl)
                      clear HNO HYE
                      go_wp2_with fail
                      go_roundw
                      case rel => exact ⟨k + 1, by omega, by go_num, by rw [HCT.out]; go_num, L9, HYY⟩
                      case measure => simp [intOf]; omega
      · obtain rfl : k = hs.length := by omega
        have hnl : ¬ ((hs.length : Nat) : Int) < (hs.length : Int) := by omega
        rw [List.take_length] at hal ⊢
        generalize hs.countP (fun h => swV h.1 clN) = c at *
        have hq : ((c : Int) == 1) = decide (c = 1) := by by_cases h : c = 1 <;> simp [h]; omega
        have HVV : Hid (r = ((c : Int) == 1)) := by show _ = _; rw [HR3.out, hal.out, hq]; rfl
        clear hq HR3
        go_wp2_with fail
        go_ret
        exact ⟨by rw [HVV.out]; rfl, L2.trans lr⟩
end Go.Proofs.YtifdocjagnhncaaDoor

/- The law's ref: a message as the document's. -/
namespace Go.Proofs.YtifdocjagnhncaaDoor
open Go.RowKit Go.Shelf
set_option maxRecDepth 100000
set_option linter.unusedVariables false
set_option linter.unusedSimpArgs false

theorem info_hdrR : (Tryd.prog.info? 62).map (fun i => (i.zero, i.size, i.bytes)) = some (some (.agg #[.string ⟨#[]⟩, .string ⟨#[]⟩]), 2, 32) := by kernel_rfl
theorem ownR_rd {base : Nat} {W : World} {v : Value} {l : List Hr} {T : TypeId} (h : W.ownsRow base T 2 v l.length (hrs l)) : RdM W.heap.size W v l := by
  obtain ⟨h1, ⟨rfl, h0⟩ | ⟨g, cap, cur, rfl, hg, hh, hl, hm, hs, hc⟩⟩ := h
  · have : l = [] := List.eq_nil_of_length_eq_zero h0
    subst this
    exact .inl ⟨none, 0, rfl, rfl, by omega, fun _ => rfl⟩
  · by_cases hn : l = []
    · subst hn
      exact .inl ⟨_, cap, rfl, rfl, by simpa [maxLen] using hm, fun h => by cases h⟩
    · refine .inr ⟨g, 0, cap, rfl, hn, hl, by simpa [maxLen] using hm, (Array.getElem?_eq_some_iff.1 hh).1, fun j hj i hi => ?_⟩
      rw [Nat.zero_add, block_cell hh, ← hrs_at l j i hj hi, ← hc, List.getElem?_take_of_lt (by omega)]
      simp

set_option maxRecDepth 100000 in
set_option maxHeartbeats 8000000 in
theorem ref_any (st : ByteArray) (sv sb : Value) (hs : List Hr) (zb : List Int) (w : World) (hH : RdM w.heap.size w sv hs) (hB : Rd w.heap.size w sb zb) (hhl : hs.length ≤ 100) :
    Calls Tryd.prog 15 #[.agg #[.string st, sv, sb]] w fun e w' => Later w w' ∧ ∃ vh, e = .returned (.agg #[.string st, vh, sb]) ∧ w'.ownsRow w.heap.size 62 2 vh hs.length (hrs hs) := by
  obtain ⟨sa, scp, rfl, hsc1, hsc2⟩ := hH.slice
  obtain ⟨ba, bcp, rfl, hbc1, hbc2⟩ := hB.slice
  have hb4 : Later w (((w.alloc (.cells #[.string st, .slice sa hs.length scp, .slice ba zb.length bcp] 25)).alloc (.cells #[.string ⟨#[]⟩, .slice none 0 0, .slice none 0 0] 31)).alloc (.cells #[.string st, .slice none 0 0, .slice ba zb.length bcp] 31)) := (((Below.refl _ _).alloc (Nat.le_refl _) _).alloc (by simp) _).alloc (by simp <;> omega) _
  have c0 : ((w.alloc (.cells #[.string st, .slice sa hs.length scp, .slice ba zb.length bcp] 25)).alloc (.cells #[.string ⟨#[]⟩, .slice none 0 0, .slice none 0 0] 31)).heap[w.heap.size]? = some (.cells #[.string st, .slice sa hs.length scp, .slice ba zb.length bcp] 25 (0, 0)) := (Below.heap_alloc _ _ _ (by simp)).trans (heap_alloc_new w _)
  have c1 : ((w.alloc (.cells #[.string st, .slice sa hs.length scp, .slice ba zb.length bcp] 25)).alloc (.cells #[.string ⟨#[]⟩, .slice none 0 0, .slice none 0 0] 31)).heap[w.heap.size + 1]? = some (.cells #[.string ⟨#[]⟩, .slice none 0 0, .slice none 0 0] 31 (0, 0)) := by
    have := heap_alloc_new (w.alloc (.cells #[.string st, .slice sa hs.length scp, .slice ba zb.length bcp] 25)) (.cells #[.string ⟨#[]⟩, .slice none 0 0, .slice none 0 0] 31)
    rw [World.size_alloc] at this
    exact this
  have hs4 : ((w.alloc (.cells #[.string st, .slice sa hs.length scp, .slice ba zb.length bcp] 25)).alloc (.cells #[.string ⟨#[]⟩, .slice none 0 0, .slice none 0 0] 31)).heap.size = w.heap.size + 1 + 1 := by simp
  have hb3 : Later w ((w.alloc (.cells #[.string st, .slice sa hs.length scp, .slice ba zb.length bcp] 25)).alloc (.cells #[.string ⟨#[]⟩, .slice none 0 0, .slice none 0 0] 31)) := ((Below.refl _ _).alloc (Nat.le_refl _) _).alloc (by simp) _
  have C0 := hide c0
  have C1 := hide c1
  have HS4 := hide hs4
  clear c0 c1 hs4 hb4
  go_enter Tryd.func15, Tryd.ntmps15
  go_upto_region 1 with fail
  generalize (w.alloc (.cells #[.string st, .slice sa hs.length scp, .slice ba zb.length bcp] 25)).alloc (.cells #[.string ⟨#[]⟩, .slice none 0 0, .slice none 0 0] 31) = w4 at *
  generalize hgc : w.heap.size = gc at C0 C1 HS4 ⊢
  have k0 := block_cell C0.out
  have la := later_allocR w4 (.cells #[.string st, .slice none 0 0, .slice ba zb.length bcp] 31)
  have C2 := hide (heap_alloc_new w4 (.cells #[.string st, .slice none 0 0, .slice ba zb.length bcp] 31))
  go_upto_region 2 with fail
  clear k0
  have D0 := hide (later_keep la C0.out)
  have D1 := hide (later_keep la C1.out)
  have LW : Later w (w4.alloc (.cells #[.string st, .slice none 0 0, .slice ba zb.length bcp] 31)) := Later.trans hb3 la
  have hs5 : w4.heap.size = gc + 1 + 1 := HS4.out
  rw [hs5] at C2 ⊢
  change Code.wp _ _ _ _ (w4.alloc (.cells #[.string st, .slice none 0 0, .slice ba zb.length bcp] 31))
  generalize w4.alloc (.cells #[.string st, .slice none 0 0, .slice ba zb.length bcp] 31) = W at *
  have LWg : Below gc w W := hgc ▸ LW
  go_upto_region 3 with fail
  have HH := hide (hH.below (hgc ▸ LWg : Below w.heap.size w W))
  rw [hgc] at HH
  have hgcW : gc + 3 ≤ W.heap.size := by have := (Array.getElem?_eq_some_iff.1 C2.out).1; omega
  go_loopw [4] (fun iv wr => ∃ (k : Nat) (vh : Value), k ≤ hs.length ∧ iv = .int .i64 (k : Int) ∧ Below gc W wr ∧ Hid (wr.heap[gc]? = some (.cells #[.string st, .slice sa hs.length scp, .slice ba zb.length bcp] 25 (0, 0))) ∧ Hid (wr.heap[gc + 1]? = some (.cells #[.string ⟨#[]⟩, .slice none 0 0, .slice none 0 0] 31 (0, 0))) ∧ Hid (wr.heap[gc + 1 + 1]? = some (.cells #[.string st, vh, .slice ba zb.length bcp] 31 (0, 0))) ∧ Hid (wr.ownsRow gc 62 2 vh k (hrs (hs.take k)))) (fun iv _ => hs.length - (intOf iv).toNat)
  case atStart => exact ⟨0, .slice none 0 0, by omega, rfl, Below.refl _ _, D0, D1, C2, rfl, .inl ⟨rfl, rfl⟩⟩
  case round =>
    obtain ⟨k, vh, hk, rfl, hbr, E0, E1, EN, EH⟩ := hrel
    have hbs := hbr.size
    have k0 := block_cell E0.out
    obtain ⟨ha, hcp, rfl⟩ := owns_form EH.out
    by_cases hlt : k < hs.length
    · have hlt' : (k : Int) < (hs.length : Int) := by omega
      have hlt2 : (k : Int) < 200 := by omega
      obtain ⟨b, off, cp, e, _, _, hbn, hcs⟩ := ((HH.out).below hbr).cells (by omega)
      cases e
      have d0 := hcs k hlt 0 (by omega)
      have d1 := hcs k hlt 1 (by omega)
      have HTK : Hid (hs.take (k + 1) = hs.take k ++ [hs[k]]) := by show _ = _; rw [← List.take_append_getElem hlt]
      clear hcs
      generalize hs[k] = hr at *
      obtain ⟨n1, n2⟩ := hr
      simp only [hrc, List.getElem?_cons_zero, List.getElem?_cons_succ, Nat.add_zero] at d0 d1
      go_upto_region 5 with fail
      clear k0
      refine wp_calmS ?_
      refine anyU_begin (R1 := Later) (R2 := fun _ _ => True) (D := [16, 18]) 19 rfl (by kernel_rfl) ?_
      have ld : Later wr wr.drew := Later.drew wr
      generalize wr.drew = Wd at *
      have qM : ∀ v1, Later Wd v1 → ∀ j, v1.cell? ⟨gc, j, none⟩ = #[.string st, .slice (some ⟨b, off, none⟩) hs.length scp, .slice ba zb.length bcp][j]? := fun v1 hv => block_cell (later_keep (ld.trans hv) E0.out)
      have qN : ∀ v1, Later Wd v1 → ∀ j, v1.cell? ⟨gc + 1 + 1, j, none⟩ = #[.string st, .slice ha k hcp, .slice ba zb.length bcp][j]? := fun v1 hv => block_cell (later_keep (ld.trans hv) EN.out)
      have q0 : ∀ v, Later Wd v → v.cell? ⟨b, off + k * 2, none⟩ = some (.string n1) := fun v hv => (ld.trans hv).cell d0
      have q1 : ∀ v, Later Wd v → v.cell? ⟨b, off + k * 2 + 1, none⟩ = some (.string n2) := fun v hv => (ld.trans hv).cell d1
      clear d0 d1
      refine anyU_val Later.pre 0 [1, 16, 18] rfl (by rfl) (by rfl) (by kernel_rfl) (by kernel_rfl) (by kernel_rfl) (by kernel_rfl) (by kernel_rfl) (fun _ _ _ _ h => by cases h.1) (by rfl) ?_; apply Exists.intro; refine ⟨fun v1 hv1 => ?_, ?_⟩; (· (go_simp; rfl)); simp only [Act.put, List.setIfInBounds_toArray, List.set_cons_zero, List.set_cons_succ]
      refine anyU_val Later.pre 1 [16, 18] rfl (by rfl) (by rfl) (by kernel_rfl) (by kernel_rfl) (by kernel_rfl) (by kernel_rfl) (by kernel_rfl) (fun _ _ _ _ h => by cases h.1) (by rfl) ?_; apply Exists.intro; refine ⟨fun v1 hv1 => ?_, ?_⟩; (· (go_simp; rfl)); simp only [Act.put, List.setIfInBounds_toArray, List.set_cons_zero, List.set_cons_succ]
      refine anyU_val Later.pre 2 [3, 5, 6, 7, 14, 15, 16, 18] rfl (by rfl) (by rfl) (by kernel_rfl) (by kernel_rfl) (by kernel_rfl) (by kernel_rfl) (by kernel_rfl) (fun _ _ _ _ h => by cases h.1) (by rfl) ?_; apply Exists.intro; refine ⟨fun v1 hv1 => ?_, ?_⟩; (· (go_simp; rfl)); simp only [Act.put, List.setIfInBounds_toArray, List.set_cons_zero, List.set_cons_succ]
      refine anyU_val Later.pre 3 [5, 6, 7, 14, 15, 16, 18] rfl (by rfl) (by rfl) (by kernel_rfl) (by kernel_rfl) (by kernel_rfl) (by kernel_rfl) (by kernel_rfl) (fun _ _ _ _ h => by cases h.1) (by rfl) ?_; apply Exists.intro; refine ⟨fun v1 hv1 => ?_, ?_⟩; (· (go_simp; rfl)); simp only [Act.put, List.setIfInBounds_toArray, List.set_cons_zero, List.set_cons_succ]
      refine anyU_val Later.pre 4 [5, 6, 7, 14, 15, 16, 18] rfl (by rfl) (by rfl) (by kernel_rfl) (by kernel_rfl) (by kernel_rfl) (by kernel_rfl) (by kernel_rfl) (fun _ _ _ _ h => by cases h.1) (by rfl) ?_; apply Exists.intro; refine ⟨fun v1 hv1 => ?_, ?_⟩; (· (go_simp; rfl)); simp only [Act.put, List.setIfInBounds_toArray, List.set_cons_zero, List.set_cons_succ]
      refine anyU_val Later.pre 5 [6, 7, 14, 15, 16, 18] rfl (by rfl) (by rfl) (by kernel_rfl) (by kernel_rfl) (by kernel_rfl) (by kernel_rfl) (by kernel_rfl) (fun _ _ _ _ h => by cases h.1) (by rfl) ?_; apply Exists.intro; refine ⟨fun v1 hv1 => ?_, ?_⟩; (· (go_simp; rfl)); simp only [Act.put, List.setIfInBounds_toArray, List.set_cons_zero, List.set_cons_succ]
      refine anyU_val Later.pre 6 [7, 14, 15, 16, 18] rfl (by rfl) (by rfl) (by kernel_rfl) (by kernel_rfl) (by kernel_rfl) (by kernel_rfl) (by kernel_rfl) (fun _ _ _ _ h => by cases h.1) (by rfl) ?_; apply Exists.intro; refine ⟨fun v1 hv1 => ?_, ?_⟩; (· (go_simp; rfl)); simp only [Act.put, List.setIfInBounds_toArray, List.set_cons_zero, List.set_cons_succ]
      refine anyU_val Later.pre 7 [14, 15, 16, 18] rfl (by rfl) (by rfl) (by kernel_rfl) (by kernel_rfl) (by kernel_rfl) (by kernel_rfl) (by kernel_rfl) (fun _ _ _ _ h => by cases h.1) (by rfl) ?_; apply Exists.intro; refine ⟨fun v1 hv1 => ?_, ?_⟩; (· (go_simp; rfl)); simp only [Act.put, List.setIfInBounds_toArray, List.set_cons_zero, List.set_cons_succ]
      refine anyU_val Later.pre 8 [9, 11, 12, 13, 14, 15, 16, 18] rfl (by rfl) (by rfl) (by kernel_rfl) (by kernel_rfl) (by kernel_rfl) (by kernel_rfl) (by kernel_rfl) (fun _ _ _ _ h => by cases h.1) (by rfl) ?_; apply Exists.intro; refine ⟨fun v1 hv1 => ?_, ?_⟩; (· (go_simp; rfl)); simp only [Act.put, List.setIfInBounds_toArray, List.set_cons_zero, List.set_cons_succ]
      refine anyU_val Later.pre 9 [11, 12, 13, 14, 15, 16, 18] rfl (by rfl) (by rfl) (by kernel_rfl) (by kernel_rfl) (by kernel_rfl) (by kernel_rfl) (by kernel_rfl) (fun _ _ _ _ h => by cases h.1) (by rfl) ?_; apply Exists.intro; refine ⟨fun v1 hv1 => ?_, ?_⟩; (· (go_simp; rfl)); simp only [Act.put, List.setIfInBounds_toArray, List.set_cons_zero, List.set_cons_succ]
      refine anyU_val Later.pre 10 [11, 12, 13, 14, 15, 16, 18] rfl (by rfl) (by rfl) (by kernel_rfl) (by kernel_rfl) (by kernel_rfl) (by kernel_rfl) (by kernel_rfl) (fun _ _ _ _ h => by cases h.1) (by rfl) ?_; apply Exists.intro; refine ⟨fun v1 hv1 => ?_, ?_⟩; (· (go_simp; rfl)); simp only [Act.put, List.setIfInBounds_toArray, List.set_cons_zero, List.set_cons_succ]
      refine anyU_val Later.pre 11 [12, 13, 14, 15, 16, 18] rfl (by rfl) (by rfl) (by kernel_rfl) (by kernel_rfl) (by kernel_rfl) (by kernel_rfl) (by kernel_rfl) (fun _ _ _ _ h => by cases h.1) (by rfl) ?_; apply Exists.intro; refine ⟨fun v1 hv1 => ?_, ?_⟩; (· (go_simp; rfl)); simp only [Act.put, List.setIfInBounds_toArray, List.set_cons_zero, List.set_cons_succ]
      refine anyU_val Later.pre 12 [13, 14, 15, 16, 18] rfl (by rfl) (by rfl) (by kernel_rfl) (by kernel_rfl) (by kernel_rfl) (by kernel_rfl) (by kernel_rfl) (fun _ _ _ _ h => by cases h.1) (by rfl) ?_; apply Exists.intro; refine ⟨fun v1 hv1 => ?_, ?_⟩; (· (go_simp; rfl)); simp only [Act.put, List.setIfInBounds_toArray, List.set_cons_zero, List.set_cons_succ]
      refine anyU_val Later.pre 13 [14, 15, 16, 18] rfl (by rfl) (by rfl) (by kernel_rfl) (by kernel_rfl) (by kernel_rfl) (by kernel_rfl) (by kernel_rfl) (fun _ _ _ _ h => by cases h.1) (by rfl) ?_; apply Exists.intro; refine ⟨fun v1 hv1 => ?_, ?_⟩; (· (go_simp; rfl)); simp only [Act.put, List.setIfInBounds_toArray, List.set_cons_zero, List.set_cons_succ]
      refine anyU_val Later.pre 14 [15, 16, 18] rfl (by rfl) (by rfl) (by kernel_rfl) (by kernel_rfl) (by kernel_rfl) (by kernel_rfl) (by kernel_rfl) (fun _ _ _ _ h => by cases h.1) (by rfl) ?_; apply Exists.intro; refine ⟨fun v1 hv1 => ?_, ?_⟩; (· (go_simp; rfl)); simp only [Act.put, List.setIfInBounds_toArray, List.set_cons_zero, List.set_cons_succ]
      clear qM qN q0 q1
      refine anyU_one 15 rfl (by kernel_rfl) (by rfl) ?_
      have l2 := later_allocR Wd (.cells #[.string n1, .string n2] 62)
      have HNW := hide (heap_alloc_new Wd (.cells #[.string n1, .string n2] 62))
      unfold Oper.wp
      go_simp
      refine ⟨Rj_out (by rfl) l2, ?_⟩
      change wpAnyU _ _ _ _ _ _ _ _ _ _ (Wd.alloc (.cells #[.string n1, .string n2] 62))
      generalize Wd.alloc (.cells #[.string n1, .string n2] 62) = W5 at *
      generalize Wd.heap.size = gw at *
      have LL := ld.trans l2
      have EH5 := ownsS_ct EH.out (CTs.of LL)
      have EN5 := later_keep LL EN.out
      have E05 := later_keep LL E0.out
      have E15 := later_keep LL E1.out
      have hnk := block_cell HNW.out
      obtain ⟨i0, hi0, hz0, hz1, hz2⟩ := info_partsS info_hdrR
      have hgc5 : gc ≤ W5.heap.size := by have := LL.size; omega
      obtain ⟨v', W2, hrun, hrow, hg, _⟩ := run_append_own (P := Tryd.prog) W5 gc 29 29 62 i0 (.agg #[.string ⟨#[]⟩, .string ⟨#[]⟩]) 2 32 Tryd.underlying29 hi0 hz0 hz1 hz2 rfl (by decide) (.slice ha k hcp) k (hrs (hs.take k)) EH5 ⟨gw, 0, none⟩ 1 1 [.string n1, .string n2] rfl
        (fun j u hj => by
          rw [show (⟨gw, 0, none⟩ : Addr).add j = ⟨gw, 0 + j, none⟩ from by unfold Addr.add; split <;> simp_all]
          rw [Nat.zero_add, hnk j, ← hj]; simp)
        (by intro u hu; simp at hu; rcases hu with rfl | rfl <;> rfl) (by unfold maxLen; omega) (by omega) hgc5
      clear hnk
      refine anyU_one 16 rfl (by kernel_rfl) (by rfl) ?_
      refine wp_app (.tmp 22) (.tmp 36) 29 rfl _ _ rfl rfl v' W2 hrun ?_
      refine ⟨Rj_in (by rfl) trivial, ?_⟩
      simp only [Act.put, List.setIfInBounds_toArray, List.set_cons_zero, List.set_cons_succ]
      obtain ⟨a2, cp2, rfl⟩ := owns_form hrow
      have EN2 := keep_row EH5 hg EN5 (.inl fun cur f e => by cases e)
      have E02 := keep_row EH5 hg E05 (.inl fun cur f e => by cases e)
      have E12 := keep_row EH5 hg E15 (.inl fun cur f e => by cases e)
      refine anyU_one 17 rfl (by kernel_rfl) (by rfl) ?_
      refine wp_value (w' := W2) (.pointer (some ⟨gc + 1 + 1, 1, none⟩)) (by go_simp) ?_
      refine ⟨Rj_out (by rfl) (Later.refl _), ?_⟩
      simp only [Act.put, List.setIfInBounds_toArray, List.set_cons_zero, List.set_cons_succ]
      have k2 := block_cell EN2
      have f2 := block_frozen EN2
      refine anyU_one 18 rfl (by kernel_rfl) (by rfl) ?_
      unfold Oper.wp
      go_simp
      refine ⟨Rj_in (by rfl) trivial, ?_⟩
      clear k2 f2
      refine anyU_done (by kernel_rfl) ?_
      refine ⟨rfl, ?_⟩
      have EN8 := heap_set1 EN2 1 (.slice a2 (k + 1) cp2)
      have E08 := hsetS_ne (j := 1) (v := .slice a2 (k + 1) cp2) E02 (m := gc + 1 + 1) (by omega)
      have E18 := hsetS_ne (j := 1) (v := .slice a2 (k + 1) cp2) E12 (m := gc + 1 + 1) (by omega)
      have EH8 := own_set hrow EN2 (by decide) 1 (.slice a2 (k + 1) cp2)
      have B8 : Below gc wr (W2.setCell ⟨gc + 1 + 1, 1, none⟩ (.slice a2 (k + 1) cp2)) := ⟨hg.os.trans LL.os, hg.tape.trans LL.tape, hg.output.trans LL.output, by have := LL.size; have := hg.size; simp; omega, fun i hi => by
        cases hh : wr.heap[i]? with
        | none => have := Array.getElem?_eq_none_iff.1 hh; omega
        | some o => exact hsetS_ne (keep_row EH5 hg (later_keep LL hh) (.inr hi)) (by omega)⟩
      have EH9 : (W2.setCell ⟨gc + 1 + 1, 1, none⟩ (.slice a2 (k + 1) cp2)).ownsRow gc 62 2 (.slice a2 (k + 1) cp2) (k + 1) (hrs (hs.take (k + 1))) := by
        rw [HTK.out, hrs_snoc]
        exact EH8
      have HE8 := hide E08; have HF8 := hide E18; have HG8 := hide EN8; have HH9 := hide EH9; have HBL := hide (hbr.trans B8)
      clear E08 E18 EN8 EH9 EH8 B8 hrow E12 E02 EN2 hg hrun E15 E05 EN5 EH5
      generalize W2.setCell ⟨gc + 1 + 1, 1, none⟩ (.slice a2 (k + 1) cp2) = V8 at *
      go_wp2_with fail
      go_roundw
      case rel => exact ⟨k + 1, .slice a2 (k + 1) cp2, by omega, by go_num, HBL.out, HE8, HF8, HG8, HH9⟩
      case measure => simp [intOf]; omega
    · have hnl : ¬ (k : Int) < (hs.length : Int) := by omega
      have hkk : k = hs.length := by omega
      have HH9 : Hid (wr.ownsRow gc 62 2 (.slice ha k hcp) hs.length (hrs hs)) := by
        have := EH.out
        rw [hkk, List.take_length] at this
        rw [hkk]
        exact this
      clear hkk
      have k2 := block_cell EN.out
      have k4 := block_cell E1.out
      have f4 := block_frozen E1.out
      go_wp2_with fail
      generalize hV : (((wr.setCell ⟨gc + 1, 0, none⟩ _).setCell ⟨gc + 1, 1, none⟩ _).setCell ⟨gc + 1, 2, none⟩ _) = V8
      have hV9 : V8 = putRow wr (gc + 1) 0 [.string st, .slice ha k hcp, .slice ba zb.length bcp] := hV.symm
      have hb8 : But (fun b => b = gc + 1) wr V8 := by rw [hV9]; exact putRow_but (E := fun b => b = gc + 1) (n := gc + 1) rfl _ _ _ _ (But.refl _ _)
      have p8 := putRow_all [.string st, .slice ha k hcp, .slice ba zb.length bcp] E1.out rfl
      rw [← hV9] at p8
      clear hV hV9
      have P8 := block_cell p8
      have LWr : Below gc w wr := LWg.trans hbr
      have hw8 : Below gc w V8 := LWr.trans (hb8.below (by omega) (fun k h e => by omega))
      have hr8 := own_but (base' := gc) HH9.out hb8 E1.out (by decide) (Nat.le_refl _)
      exact bodyPost_ret (v := .agg #[.string st, .slice ha k hcp, .slice ba zb.length bcp]) (by simp [results, Tryd.results15, go_sem, P8]) rfl ⟨(by show Below w.heap.size w V8; rw [hgc]; exact hw8), _, rfl, hr8⟩
end Go.Proofs.YtifdocjagnhncaaDoor

/- The document's text, Build. -/
namespace Go.Proofs.YtifdocjagnhncaaDoor
open Go.RowKit Go.Shelf
set_option maxRecDepth 100000
set_option linter.unusedVariables false
set_option linter.unusedSimpArgs false

set_option maxRecDepth 100000 in
set_option maxHeartbeats 8000000 in
theorem rtext_any (st : ByteArray) (sv sb : Value) (hs : List Hr) (zb : List Int) (w : World) (hH : RdM w.heap.size w sv hs) (hB : Rd w.heap.size w sb zb) (hz : szM st hs zb.length ≤ 4096) :
    Calls Tryd.prog 26 #[.agg #[.string st, sv, sb]] w fun e w' => Later w w' ∧ ∃ v, e = .returned v ∧ OwG w.heap.size w' v (txM st hs zb) := by
  obtain ⟨sa, scp, rfl, hsc1, hsc2⟩ := hH.slice
  obtain ⟨ba, bcp, rfl, hbc1, hbc2⟩ := hB.slice
  have l0 : Later w (w.alloc (.cells #[.string st, .slice sa hs.length scp, .slice ba zb.length bcp] 31)) := later_allocR _ _
  have C0 := hide (heap_alloc_new w (.cells #[.string st, .slice sa hs.length scp, .slice ba zb.length bcp] 31))
  have hz2 : st.size + 2 + hsz hs + 2 + zb.length ≤ 4096 := hz
  have HTX : Hid (txM st hs zb = nmsB (st ++ crB) ++ hdL hs ++ nmsB crB ++ zb) := rfl
  generalize txM st hs zb = tx at *
  have hcs : (st ++ crB).size = st.size + 2 := by rw [ByteArray.size_append]; rfl
  have HCS := hide hcs
  clear hcs
  go_enter Tryd.func26, Tryd.ntmps26
  go_upto_region 1 with fail
  generalize w.alloc _ = w0 at *
  have hgs : w.heap.size ≤ w0.heap.size := l0.size
  have HB0 := hide (hB.later l0)
  have HH0 := hide (hH.later l0)
  have k0 := block_cell C0.out
  obtain ⟨gb, cb, w1, hcv, hG1, l1⟩ : ∃ g c w1, (convert 9 22 (.string (st ++ ⟨#[13, 10]⟩))).run Tryd.prog w0 = .ok (.slice (some ⟨g, 0, none⟩) (nmsB (st ++ crB)).length c) w1 ∧ OwG w.heap.size w1 (.slice (some ⟨g, 0, none⟩) (nmsB (st ++ crB)).length c) (nmsB (st ++ crB)) ∧ Later w0 w1 := by
    have hG := conv_G w0 (st ++ crB) (by rw [HCS.out]; omega)
    rw [← nmsB_len (st ++ crB)] at hG
    obtain ⟨g, cap, cur, fz, e, hbg, r⟩ := hG
    refine ⟨w0.heap.size, _, _, ?_, ⟨g, cap, cur, fz, e, by omega, r⟩, conv_later w0 5 (st ++ crB)⟩
    rw [nmsB_len]
    exact Lib.run_convert_string_bytes w0 9 22 5 (st ++ crB) Tryd.underlying9 Tryd.underlying22 Tryd.underlying5
  have hy0 : (nmsB (st ++ crB)).length = st.size + 2 := by rw [nmsB_len, HCS.out]
  have HY0 := hide hy0
  have HG1 := hide hG1
  clear hG1 hy0
  generalize nmsB (st ++ crB) = y0 at *
  go_upto_region 2 with fail
  clear hcv k0
  have C1 := hide (later_keep l1 C0.out)
  have k1 := block_cell C1.out
  go_upto_region 3 with fail
  clear k1
  have HH1 := hide (hH.later (Later.trans l0 l1))
  have HB1 := hide (hB.later (Later.trans l0 l1))
  have L1 : Later w w1 := Later.trans l0 l1
  go_loopw [3, 4] (fun bv iv wr => ∃ k : Nat, k ≤ hs.length ∧ iv = .int .i64 (k : Int) ∧ Below w.heap.size w wr ∧ Hid (wr.heap[w.heap.size]? = some (.cells #[.string st, .slice sa hs.length scp, .slice ba zb.length bcp] 31 (0, 0))) ∧ Hid (OwG w.heap.size wr bv (y0 ++ hdL (hs.take k)))) (fun _ iv _ => hs.length - (intOf iv).toNat)
  case atStart => exact ⟨0, by omega, rfl, L1, C1, by rw [List.take_zero]; show Hid (OwG _ _ _ (y0 ++ [])); rw [List.append_nil]; exact HG1⟩
  case round =>
    obtain ⟨k, hk, rfl, lr, CR, HG⟩ := hrel
    have hle := hsz_take_le hs k
    have hdl := hdL_len (hs.take k)
    by_cases hlt : k < hs.length
    · have hlt' : (k : Int) < (hs.length : Int) := by omega
      obtain ⟨b, off, cp, e, _, _, hbn, hcs⟩ := (hH.below lr).cells (by omega)
      cases e
      have HDC : Hid (∀ W, Below w.heap.size w W → W.cell? ⟨b, off + k * 2, none⟩ = some (.string hs[k].1) ∧ W.cell? ⟨b, off + k * 2 + 1, none⟩ = some (.string hs[k].2)) := fun W l => by
        obtain ⟨b', off', cp', e, _, _, _, hcs'⟩ := (hH.below l).cells (by omega)
        cases e
        exact ⟨hcs' k hlt 0 (by omega), hcs' k hlt 1 (by omega)⟩
      have hsn : hs.take (k + 1) = hs.take k ++ [hs[k]] := by rw [← List.take_append_getElem hlt]
      have HSN : Hid (hdL (hs.take (k + 1)) = hdL (hs.take k) ++ nmsB (hdB hs[k])) := by show _ = _; rw [hsn, hdL_snoc]
      have hle2 := hsz_take_le hs (k + 1)
      rw [hsn, hsz_snoc] at hle2
      clear hcs hsn
      generalize hs[k] = r at *
      obtain ⟨x, y⟩ := r
      simp only at hle2 HDC
      have hHB : Hid (nmsB (hdB (x, y)) = nmsB x ++ (nmsB ⟨#[58, 32]⟩ ++ (nmsB y ++ nmsB ⟨#[13, 10]⟩))) := by show nmsB (x ++ nmE ++ y ++ crB) = _; rw [nmsB_app, nmsB_app, nmsB_app, List.append_assoc, List.append_assoc]; rfl
      rw [hHB.out] at HSN
      have lrs := lr.size
      have hyl : (y0 ++ hdL (hs.take k)).length = st.size + 2 + hsz (hs.take k) := by rw [List.length_append, hdl, HY0.out]
      have hl2 : (nmsB (⟨#[58, 32]⟩ : ByteArray)).length = 2 := rfl
      have hl3 : (nmsB (⟨#[13, 10]⟩ : ByteArray)).length = 2 := rfl
      have hcell : ∀ W, Below w.heap.size w W → W.cell? ⟨b, off + k * 2, none⟩ = some (.string x) ∧ W.cell? ⟨b, off + k * 2 + 1, none⟩ = some (.string y) := fun W l => HDC.out W l
      have key : ∀ (A : List Int) (v : Value) (W : World) (s : ByteArray), OwG w.heap.size W v A → Below w.heap.size w W → Hid (W.heap[w.heap.size]? = some (.cells #[.string st, .slice (some ⟨b, off, none⟩) hs.length scp, .slice ba zb.length bcp] 31 (0, 0))) → A.length + s.size ≤ 1000000 → ∃ n g c W', Hid ((Builtin.append_ #[22, 9] 22 #[v, .string s]).run Tryd.prog W = .ok (.slice (some ⟨g, 0, none⟩) n c) W') ∧ OwG w.heap.size W' (.slice (some ⟨g, 0, none⟩) n c) (A ++ nmsB s) ∧ Below w.heap.size w W' ∧ Hid (W'.heap[w.heap.size]? = some (.cells #[.string st, .slice (some ⟨b, off, none⟩) hs.length scp, .slice ba zb.length bcp] 31 (0, 0))) := by
        intro A v W s hG lW C hz
        obtain ⟨v2, w2, hrun, hG2, hgb2⟩ := appG_str 22 w.heap.size W v A hG s lW.size hz
        obtain ⟨g2, c2, e2, hg2⟩ := hG2.form
        obtain ⟨g1, c1, e1, hg1⟩ := hG.form
        subst e2
        refine ⟨_, g2, c2, w2, hrun, hG2, grown_later hgb2 lW lW.size (fun k hk => by rw [e1] at hk; simp [Value.ownBlock] at hk; omega), ?_⟩
        show _ = _
        rw [hgb2.block w.heap.size (Array.getElem?_eq_some_iff.1 C.out).1 (fun e => by
          rw [e1] at e
          simp [Value.ownBlock] at e
          obtain ⟨_, _, cur, fz, e1', _, hh, _⟩ := hG
          rw [e1] at e1'
          cases e1'
          rw [← e, C.out] at hh
          cases hh)]
        exact C.out
      obtain ⟨n1, g1, c1, w1', R1, hG1, L1', C1'⟩ := key _ _ wr x HG.out lr CR (by omega)
      obtain ⟨n2, g2, c2, w2', R2, hG2, L2', C2'⟩ := key _ _ w1' ⟨#[58, 32]⟩ hG1 L1' C1' (by rw [List.length_append, nmsB_len, hyl]; show _ + 2 ≤ _; omega)
      obtain ⟨n3, g3, c3, w3', R3, hG3, L3', C3'⟩ := key _ _ w2' y hG2 L2' C2' (by rw [List.length_append, List.length_append, nmsB_len, hyl, hl2]; omega)
      obtain ⟨n4, g4, c4, w4', R4, hG4, L4', C4'⟩ := key _ _ w3' ⟨#[13, 10]⟩ hG3 L3' C3' (by simp only [List.length_append, nmsB_len] at hyl ⊢; rw [hyl]; show st.size + 2 + hsz (hs.take k) + x.size + 2 + y.size + 2 ≤ 1000000; omega)
      have HG4 := hide hG4
      obtain ⟨g0, c0, e0, _⟩ := HG.out.form
      generalize (y0 ++ hdL (hs.take k)).length = n0 at e0
      subst e0
      have kR := block_cell CR.out
      have d0 := (hcell wr lr).1
      have dd := (hcell w2' L2').2
      have k2 := block_cell C2'.out
      clear hcell HDC key hG1 hG2 hG3 hG4 hdl hyl hle hle2 hl2 hl3 HG
      go_wp2_with (at_builtin; refine wpList_appT rfl (.tmp 16) (.tmp 22) 22 9 rfl _ _ rfl rfl _ _ R1.out ?_; refine Hid.out ?_)
      show wpList _ _ _ _ _ _
      clear kR d0
      go_wp2_with (at_builtin; refine wpList_appT rfl (.tmp 24) (.const (.string ⟨#[58, 32]⟩)) 22 9 rfl _ _ rfl rfl _ _ R2.out ?_; refine Hid.out ?_)
      show wpList _ _ _ _ _ _
      go_wp2_with (at_builtin; refine wpList_appT rfl (.tmp 26) (.tmp 32) 22 9 rfl _ _ rfl rfl _ _ R3.out ?_; refine Hid.out ?_)
      show wpList _ _ _ _ _ _
      clear k2 dd
      go_wp2_with (at_builtin; refine wpList_appT rfl (.tmp 34) (.const (.string ⟨#[13, 10]⟩)) 22 9 rfl _ _ rfl rfl _ _ R4.out ?_)
      go_roundw
      case rel => exact ⟨k + 1, by omega, by go_num, L4', C4', by rw [HSN.out]; simpa only [List.append_assoc] using HG4⟩
      case measure => simp [intOf]; omega
    · obtain rfl : k = hs.length := by omega
      have hnl : ¬ ((hs.length : Nat) : Int) < (hs.length : Int) := by omega
      rw [List.take_length] at HG hdl
      obtain ⟨g1, c1, e1, hg1⟩ := HG.out.form
      have hyl : (y0 ++ hdL hs).length = st.size + 2 + hsz hs := by rw [List.length_append, hdl, HY0.out]
      obtain ⟨v2, w2, hrun, hG2, hgb2⟩ := appG_str 22 w.heap.size wr _ _ HG.out ⟨#[13, 10]⟩ lr.size (by rw [hyl]; show _ + 2 ≤ _; omega)
      obtain ⟨g2, c2, e2, hg2⟩ := hG2.form
      have l2 := grown_later hgb2 lr lr.size (fun k hk => by rw [e1] at hk; simp [Value.ownBlock] at hk; omega)
      have C2 : w2.heap[w.heap.size]? = some (.cells #[.string st, .slice sa hs.length scp, .slice ba zb.length bcp] 31 (0, 0)) := by
        rw [hgb2.block w.heap.size (Array.getElem?_eq_some_iff.1 CR.out).1 (fun e => by
          rw [e1] at e
          simp [Value.ownBlock] at e
          obtain ⟨_, _, cur, fz, e2, _, hh, _⟩ := HG.out
          rw [e1] at e2
          cases e2
          rw [← e, CR.out] at hh
          cases hh)]
        exact CR.out
      obtain ⟨v3, w3, hrun3, hG3, hgb3⟩ := appG_bytes 22 w.heap.size w.heap.size w2 _ _ hG2 _ zb (hB.below l2) l2.size (by rw [List.length_append, hyl, nmsB_len]; show _ + 2 + _ ≤ _; omega)
      have l3 := grown_later hgb3 l2 l2.size (fun k hk => by rw [e2] at hk; simp [Value.ownBlock] at hk; omega)
      obtain ⟨g3, c3, e3, hg3⟩ := hG3.form
      rw [show y0 ++ hdL hs ++ nmsB ⟨#[13, 10]⟩ ++ zb = tx from HTX.out.symm] at hG3 e3
      have HG3 := hide hG3
      have HRUN := hide hrun
      have HRUN3 := hide hrun3
      have k2 := block_cell C2
      clear hG3 hrun hrun3 hgb2 hgb3 hG2 hdl hyl hle HG
      generalize hn1 : (y0 ++ hdL hs).length = n1 at e1
      generalize hn2 : (y0 ++ hdL hs ++ nmsB ⟨#[13, 10]⟩).length = n2 at e2
      generalize hn3 : tx.length = n3 at e3
      clear hn1 hn2 hn3
      subst e1
      subst e2
      subst e3
      have kR := block_cell CR.out
      go_wp2_with (at_builtin; refine wpList_appT rfl (.tmp 36) (.const (.string ⟨#[13, 10]⟩)) 22 9 rfl _ _ rfl rfl _ _ HRUN.out ?_; refine Hid.out ?_)
      show wpList _ _ _ _ _ _
      go_wp2_with (at_builtin; go_loud (refine wpList_appT rfl (.tmp 38) (.tmp 40) 22 22 rfl _ _ rfl rfl _ _ HRUN3.out ?_))
      go_ret
      exact ⟨l3, _, rfl, HG3.out⟩

set_option maxHeartbeats 4000000 in
theorem rbuild14_yes (st : ByteArray) (sv sb : Value) (hs : List Hr) (zb : List Int) (w : World) (hH : RdM w.heap.size w sv hs) (hB : Rd w.heap.size w sb zb) (hz : szM st hs zb.length ≤ 9000000000000000000) (hzs : st.size ≤ 140737488355328 ∧ ∀ h ∈ hs, h.1.size ≤ 140737488355328 ∧ h.2.size ≤ 140737488355328) (hr : rgB st hs zb.length = true) :
    Calls Tryd.prog 14 #[.agg #[.string st, sv, sb]] w fun e w' => Later w w' ∧ ∃ v, e = .returned (.tuple #[v, .int .i64 0]) ∧ OwG w.heap.size w' v (txM st hs zb) := by
  obtain ⟨sa, scp, rfl, hsc1, hsc2⟩ := hH.slice
  obtain ⟨ba, bcp, rfl, hbc1, hbc2⟩ := hB.slice
  have l0 : Later w (w.alloc (.cells #[.string st, .slice sa hs.length scp, .slice ba zb.length bcp] 31)) := later_allocR _ _
  have C0 := hide (heap_alloc_new w (.cells #[.string st, .slice sa hs.length scp, .slice ba zb.length bcp] 31))
  have HR := hide (fun W (l : Later w W) => rright14_any st hs _ _ zb W (hH.later l) (hB.later l) hz hzs)
  rw [hr] at HR
  have hz4 := rgB_sz hr
  have HJ := hide (fun W (l : Later w W) => rtext_any st _ _ hs zb W (hH.later l) (hB.later l) hz4)
  clear hr hz4 hz
  generalize txM st hs zb = tx at *
  go_enter Tryd.func14, Tryd.ntmps14
  go_upto_region 1 with fail
  generalize w.alloc _ = w0 at *
  generalize w.heap.size = gm at *
  have k0 := block_cell C0.out
  go_wp2_with fail
  refine (HR.out w0 l0).mono ?_
  rintro e w1 ⟨rfl, l1⟩
  clear k0
  have k1 := block_cell (later_keep l1 C0.out)
  go_wp2_with fail
  refine (HJ.out w1 (Later.trans l0 l1)).mono ?_
  rintro e w2 ⟨l2, v, rfl, hG⟩
  clear k1
  obtain ⟨g, c, e, hg⟩ := hG.form
  generalize hn : tx.length = n at e
  subst e
  have HG := hide hG
  have hsz := l1.size
  clear hG hn
  go_wp2_with fail
  exact bodyPost_ret (v := .tuple #[.slice (some ⟨g, 0, none⟩) n c, .int .i64 0]) (by simp [results, Tryd.results14, go_sem]) rfl ⟨Later.trans l0 (l1.trans l2), _, rfl, let ⟨g, cap, cur, fz, e, hb, r⟩ := HG.out; ⟨g, cap, cur, fz, e, by have := l0.size; omega, r⟩⟩

set_option maxHeartbeats 4000000 in
theorem rbuild14_no (st : ByteArray) (sv sb : Value) (hs : List Hr) (zb : List Int) (w : World) (hH : RdM w.heap.size w sv hs) (hB : Rd w.heap.size w sb zb) (hz : szM st hs zb.length ≤ 9000000000000000000) (hzs : st.size ≤ 140737488355328 ∧ ∀ h ∈ hs, h.1.size ≤ 140737488355328 ∧ h.2.size ≤ 140737488355328) (hr : rgB st hs zb.length = false) :
    Calls Tryd.prog 14 #[.agg #[.string st, sv, sb]] w fun e w' => e = .returned (.tuple #[.slice none 0 0, .int .i64 4]) ∧ Later w w' := by
  obtain ⟨sa, scp, rfl, hsc1, hsc2⟩ := hH.slice
  obtain ⟨ba, bcp, rfl, hbc1, hbc2⟩ := hB.slice
  have l0 : Later w (w.alloc (.cells #[.string st, .slice sa hs.length scp, .slice ba zb.length bcp] 31)) := later_allocR _ _
  have C0 := hide (heap_alloc_new w (.cells #[.string st, .slice sa hs.length scp, .slice ba zb.length bcp] 31))
  have HR := hide (fun W (l : Later w W) => rright14_any st hs _ _ zb W (hH.later l) (hB.later l) hz hzs)
  rw [hr] at HR
  clear hr hz
  go_enter Tryd.func14, Tryd.ntmps14
  go_upto_region 1 with fail
  generalize w.alloc _ = w0 at *
  generalize w.heap.size = gm at *
  have k0 := block_cell C0.out
  go_wp2_with fail
  refine (HR.out w0 l0).mono ?_
  rintro e w1 ⟨rfl, l1⟩
  clear k0
  go_wp2_with fail
  exact bodyPost_ret (v := .tuple #[.slice none 0 0, .int .i64 4]) (by simp [results, Tryd.results14, go_sem]) rfl ⟨rfl, Later.trans l0 l1⟩
end Go.Proofs.YtifdocjagnhncaaDoor

/- The document's Same. -/
namespace Go.Proofs.YtifdocjagnhncaaDoor
open Go.RowKit Go.Shelf
set_option maxRecDepth 100000
set_option linter.unusedVariables false
set_option linter.unusedSimpArgs false

set_option maxRecDepth 100000 in
set_option maxHeartbeats 8000000 in
theorem rsame14_any (s1 s2 : ByteArray) (v1 v2 b1 b2 : Value) (h1 h2 : List Hr) (z1 z2 : List Int) (w : World) (hH1 : RdM w.heap.size w v1 h1) (hH2 : RdM w.heap.size w v2 h2) (hB1 : Rd w.heap.size w b1 z1) (hB2 : Rd w.heap.size w b2 z2) (hy1 : Mt.By z1) (hy2 : Mt.By z2) :
    Calls Tryd.prog 19 #[.agg #[.string s1, v1, b1], .agg #[.string s2, v2, b2]] w fun e w' => e = .returned (.bool (smM s1 s2 h1 h2 z1 z2)) ∧ Later w w' := by
  obtain ⟨a1, c1, rfl, _, _⟩ := hH1.slice
  obtain ⟨a2, c2, rfl, _, _⟩ := hH2.slice
  obtain ⟨a3, c3, rfl, _, _⟩ := hB1.slice
  obtain ⟨a4, c4, rfl, _, _⟩ := hB2.slice
  have hb4 : Later w ((w.alloc (.cells #[.string s1, .slice a1 h1.length c1, .slice a3 z1.length c3] 31)).alloc (.cells #[.string s2, .slice a2 h2.length c2, .slice a4 z2.length c4] 31)) := ((Below.refl _ _).alloc (Nat.le_refl _) _).alloc (by simp) _
  have C0 := hide (show ((w.alloc (.cells #[.string s1, .slice a1 h1.length c1, .slice a3 z1.length c3] 31)).alloc (.cells #[.string s2, .slice a2 h2.length c2, .slice a4 z2.length c4] 31)).heap[w.heap.size]? = some (.cells #[.string s1, .slice a1 h1.length c1, .slice a3 z1.length c3] 31 (0, 0)) from (Below.heap_alloc _ _ _ (by simp)).trans (heap_alloc_new w _))
  have C1 : Hid (((w.alloc (.cells #[.string s1, .slice a1 h1.length c1, .slice a3 z1.length c3] 31)).alloc (.cells #[.string s2, .slice a2 h2.length c2, .slice a4 z2.length c4] 31)).heap[w.heap.size + 1]? = some (.cells #[.string s2, .slice a2 h2.length c2, .slice a4 z2.length c4] 31 (0, 0))) := by
    have := heap_alloc_new (w.alloc (.cells #[.string s1, .slice a1 h1.length c1, .slice a3 z1.length c3] 31)) (.cells #[.string s2, .slice a2 h2.length c2, .slice a4 z2.length c4] 31)
    rw [World.size_alloc] at this
    exact this
  have hv1 := conv_rd 22 9 5 Tryd.underlying22 Tryd.underlying5 Tryd.underlying9 (hB1.later hb4)
  have hv2 := conv_rd 22 9 5 Tryd.underlying22 Tryd.underlying5 Tryd.underlying9 (hB2.later hb4)
  have HV : Hid (smM s1 s2 h1 h2 z1 z2 = (eqS s1 s2 && (decide (h1 = h2) && decide (z1 = z2)))) := rfl
  have HQ := hide (str_beq s1 s2)
  have HZ := hide (str_eq hy1 hy2)
  generalize strOfNums z1 = t1 at *
  generalize strOfNums z2 = t2 at *
  generalize smM s1 s2 h1 h2 z1 z2 = r at *
  generalize decide (z1 = z2) = q2 at *
  generalize eqS s1 s2 = q0 at *
  have HH1 := hide (hH1.later hb4)
  have HH2 := hide (hH2.later hb4)
  clear hB1 hB2 hy1 hy2
  go_enter Tryd.func19, Tryd.ntmps19
  go_upto_region 1 with fail
  generalize (w.alloc (.cells #[.string s1, .slice a1 h1.length c1, .slice a3 z1.length c3] 31)).alloc (.cells #[.string s2, .slice a2 h2.length c2, .slice a4 z2.length c4] 31) = w4 at *
  generalize w.heap.size = gc at C0 C1 ⊢
  have k0 := block_cell C0.out
  have k1 := block_cell C1.out
  have hq0 := HQ.out
  have hqz := HZ.out
  cases q0 with
  | false =>
    go_wp2_with fail
    go_ret
    exact ⟨by rw [HV.out]; rfl, hb4⟩
  | true =>
    by_cases hne : h1.length = h2.length
    case neg =>
      have hb : ((h1.length : Int) != (h2.length : Int)) = true := by simp; omega
      have HE : Hid (r = false) := by show _ = _; rw [HV.out, decide_eq_false (fun e => hne (by rw [e]))]; rfl
      go_wp2_with fail
      go_ret
      exact ⟨by rw [HE.out]; rfl, hb4⟩
    have hb : ((h1.length : Int) != (h2.length : Int)) = false := by simp; omega
    have HNE := hide hne
    clear hne
    cases q2 with
    | false =>
      go_wp2_with fail
      go_ret
      exact ⟨by rw [HV.out]; simp, hb4⟩
    | true =>
      have HV2 : Hid (r = decide (h1 = h2)) := by show _ = _; rw [HV.out]; simp
      go_upto_region 4 with fail
      clear hb hv1 hv2 k0 k1 hq0 hqz HV
      go_loopw [5] (fun iv wr => ∃ k : Nat, k ≤ h1.length ∧ iv = .int .i64 (k : Int) ∧ Later w4 wr ∧ Hid (h1.take k = h2.take k)) (fun iv _ => h1.length - (intOf iv).toNat)
      case atStart => exact ⟨0, by omega, rfl, Later.refl _, hide rfl⟩
      case round =>
        obtain ⟨k, hk, rfl, lr, heq⟩ := hrel
        have k0 := block_cell (later_keep lr C0.out)
        have k1 := block_cell (later_keep lr C1.out)
        by_cases hlt : k < h1.length
        · have hlt' : (k : Int) < (h1.length : Int) := by omega
          have hlt2 : k < h2.length := by rw [← HNE.out]; exact hlt
          have hlt2' : (k : Int) < (h2.length : Int) := by omega
          obtain ⟨b, off, cp, e, _, _, hbn, hcs⟩ := (HH1.out.later lr).cells (by omega)
          cases e
          obtain ⟨b2, off2, cp2, e, _, _, hbn2, hcs2⟩ := (HH2.out.later lr).cells (by omega)
          cases e
          have d0 := hcs k hlt 0 (by omega)
          have d1 := hcs k hlt 1 (by omega)
          have e0 := hcs2 k hlt2 0 (by omega)
          have e1 := hcs2 k hlt2 1 (by omega)
          have HS : Hid (h1[k] = h2[k] → h1.take (k + 1) = h2.take (k + 1)) := fun h => by rw [← List.take_append_getElem hlt, ← List.take_append_getElem hlt2, heq.out, h]
          have HN : Hid (h1[k] ≠ h2[k] → r = false) := fun h => by rw [HV2.out, decide_eq_false_iff_not]; intro e; subst e; exact h rfl
          clear hcs hcs2
          generalize h1[k] = r1 at *
          obtain ⟨x, y⟩ := r1
          generalize h2[k] = r2 at *
          obtain ⟨x2, y2⟩ := r2
          simp only [hrc, List.getElem?_cons_zero, List.getElem?_cons_succ, Nat.add_zero] at d0 d1 e0 e1
          by_cases hxy : (x, y) = (x2, y2)
          · have HSS := hide (HS.out hxy)
            cases hxy
            clear HS HN
            go_upto_region 6 with fail; refine anyR_begin (R := Later) Later.pre Later.drew 11 rfl (by kernel_rfl) (fun V0 hV0 => ?_); have q0 : ∀ v, Later V0 v → v.cell? ⟨b, off + k * 2, none⟩ = some (.string _) := (fun v hv => (hV0.trans hv).cell d0); have q1 : ∀ v, Later V0 v → v.cell? ⟨b, off + k * 2 + 1, none⟩ = some (.string _) := (fun v hv => (hV0.trans hv).cell d1); have q2 : ∀ v, Later V0 v → v.cell? ⟨b2, off2 + k * 2, none⟩ = some (.string _) := (fun v hv => (hV0.trans hv).cell e0); have q3 : ∀ v, Later V0 v → v.cell? ⟨b2, off2 + k * 2 + 1, none⟩ = some (.string _) := (fun v hv => (hV0.trans hv).cell e1); clear d0 d1 e0 e1 k0 k1; have k0 : ∀ v, Later V0 v → ∀ j, v.cell? ⟨gc, j, none⟩ = #[Value.string s1, .slice (some ⟨b, off, none⟩) h1.length c1, .slice a3 z1.length c3][j]? := (fun v hv => block_cell (later_keep (lr.trans (hV0.trans hv)) C0.out)); have k1 : ∀ v, Later V0 v → ∀ j, v.cell? ⟨gc + 1, j, none⟩ = #[Value.string s2, .slice (some ⟨b2, off2, none⟩) h2.length c2, .slice a4 z2.length c4][j]? := (fun v hv => block_cell (later_keep (lr.trans (hV0.trans hv)) C1.out)); refine anyR_val Later.pre 0 rfl (by kernel_rfl) (by kernel_rfl) (by kernel_rfl) (fun _ _ _ _ h => h) rfl ?_; apply Exists.intro; refine ⟨fun v1 hv1 => ?_, ?_⟩; (· (go_simp; rfl)); simp only [Act.put, List.setIfInBounds_toArray, List.set_cons_zero, List.set_cons_succ]; refine anyR_val Later.pre 1 rfl (by kernel_rfl) (by kernel_rfl) (by kernel_rfl) (fun _ _ _ _ h => h) rfl ?_; apply Exists.intro; refine ⟨fun v1 hv1 => ?_, ?_⟩; (· (go_simp; rfl)); simp only [Act.put, List.setIfInBounds_toArray, List.set_cons_zero, List.set_cons_succ]; refine anyR_val Later.pre 2 rfl (by kernel_rfl) (by kernel_rfl) (by kernel_rfl) (fun _ _ _ _ h => h) rfl ?_; apply Exists.intro; refine ⟨fun v1 hv1 => ?_, ?_⟩; (· (go_simp; rfl)); simp only [Act.put, List.setIfInBounds_toArray, List.set_cons_zero, List.set_cons_succ]; refine anyR_val Later.pre 3 rfl (by kernel_rfl) (by kernel_rfl) (by kernel_rfl) (fun _ _ _ _ h => h) rfl ?_; apply Exists.intro; refine ⟨fun v1 hv1 => ?_, ?_⟩; (· (go_simp; rfl)); simp only [Act.put, List.setIfInBounds_toArray, List.set_cons_zero, List.set_cons_succ]; refine anyR_val Later.pre 4 rfl (by kernel_rfl) (by kernel_rfl) (by kernel_rfl) (fun _ _ _ _ h => h) rfl ?_; apply Exists.intro; refine ⟨fun v1 hv1 => ?_, ?_⟩; (· (go_simp; rfl)); simp only [Act.put, List.setIfInBounds_toArray, List.set_cons_zero, List.set_cons_succ]; refine anyR_val Later.pre 5 rfl (by kernel_rfl) (by kernel_rfl) (by kernel_rfl) (fun _ _ _ _ h => h) rfl ?_; apply Exists.intro; refine ⟨fun v1 hv1 => ?_, ?_⟩; (· (go_simp; rfl)); simp only [Act.put, List.setIfInBounds_toArray, List.set_cons_zero, List.set_cons_succ]; refine anyR_val Later.pre 6 rfl (by kernel_rfl) (by kernel_rfl) (by kernel_rfl) (fun _ _ _ _ h => h) rfl ?_; apply Exists.intro; refine ⟨fun v1 hv1 => ?_, ?_⟩; (· (go_simp; rfl)); simp only [Act.put, List.setIfInBounds_toArray, List.set_cons_zero, List.set_cons_succ]; refine anyR_val Later.pre 7 rfl (by kernel_rfl) (by kernel_rfl) (by kernel_rfl) (fun _ _ _ _ h => h) rfl ?_; apply Exists.intro; refine ⟨fun v1 hv1 => ?_, ?_⟩; (· (go_simp; rfl)); simp only [Act.put, List.setIfInBounds_toArray, List.set_cons_zero, List.set_cons_succ]; refine anyR_val Later.pre 8 rfl (by kernel_rfl) (by kernel_rfl) (by kernel_rfl) (fun _ _ _ _ h => h) rfl ?_; apply Exists.intro; refine ⟨fun v1 hv1 => ?_, ?_⟩; (· (go_simp; rfl)); simp only [Act.put, List.setIfInBounds_toArray, List.set_cons_zero, List.set_cons_succ]; refine anyR_val Later.pre 9 rfl (by kernel_rfl) (by kernel_rfl) (by kernel_rfl) (fun _ _ _ _ h => h) rfl ?_; apply Exists.intro; refine ⟨fun v1 hv1 => ?_, ?_⟩; (· (go_simp; rfl)); simp only [Act.put, List.setIfInBounds_toArray, List.set_cons_zero, List.set_cons_succ]; refine anyR_val Later.pre 10 rfl (by kernel_rfl) (by kernel_rfl) (by kernel_rfl) (fun _ _ _ _ h => h) rfl ?_; apply Exists.intro; refine ⟨fun v1 hv1 => ?_, ?_⟩; (· (go_simp; rfl)); simp only [Act.put, List.setIfInBounds_toArray, List.set_cons_zero, List.set_cons_succ]; clear q0 q1 q2 q3 k0 k1; refine anyR_done (by kernel_rfl) (fun V9 hV9 => ?_)
            go_wp2_with fail
            go_roundw
            case rel => exact ⟨k + 1, by omega, by go_num, lr.trans (hV0.trans hV9), HSS⟩
            case measure => simp [intOf]; omega
          · have HVV := hide (HN.out hxy)
            have hor : (¬ x.toList = x2.toList) ∨ (x.toList = x2.toList ∧ ¬ y.toList = y2.toList) := by
              by_cases hx : x.toList = x2.toList
              · refine .inr ⟨hx, fun hy => hxy ?_⟩
                rw [ByteArray.toList_eq, ByteArray.toList_eq] at hx hy
                rw [ba_ext hx, ba_ext hy]
              · exact .inl hx
            clear HS HN hxy
            rcases hor with hx | ⟨hx, hy⟩
            · go_upto_region 6 with fail; refine anyR_begin (R := Later) Later.pre Later.drew 11 rfl (by kernel_rfl) (fun V0 hV0 => ?_); have q0 : ∀ v, Later V0 v → v.cell? ⟨b, off + k * 2, none⟩ = some (.string _) := (fun v hv => (hV0.trans hv).cell d0); have q1 : ∀ v, Later V0 v → v.cell? ⟨b, off + k * 2 + 1, none⟩ = some (.string _) := (fun v hv => (hV0.trans hv).cell d1); have q2 : ∀ v, Later V0 v → v.cell? ⟨b2, off2 + k * 2, none⟩ = some (.string _) := (fun v hv => (hV0.trans hv).cell e0); have q3 : ∀ v, Later V0 v → v.cell? ⟨b2, off2 + k * 2 + 1, none⟩ = some (.string _) := (fun v hv => (hV0.trans hv).cell e1); clear d0 d1 e0 e1 k0 k1; have k0 : ∀ v, Later V0 v → ∀ j, v.cell? ⟨gc, j, none⟩ = #[Value.string s1, .slice (some ⟨b, off, none⟩) h1.length c1, .slice a3 z1.length c3][j]? := (fun v hv => block_cell (later_keep (lr.trans (hV0.trans hv)) C0.out)); have k1 : ∀ v, Later V0 v → ∀ j, v.cell? ⟨gc + 1, j, none⟩ = #[Value.string s2, .slice (some ⟨b2, off2, none⟩) h2.length c2, .slice a4 z2.length c4][j]? := (fun v hv => block_cell (later_keep (lr.trans (hV0.trans hv)) C1.out)); refine anyR_val Later.pre 0 rfl (by kernel_rfl) (by kernel_rfl) (by kernel_rfl) (fun _ _ _ _ h => h) rfl ?_; apply Exists.intro; refine ⟨fun v1 hv1 => ?_, ?_⟩; (· (go_simp; rfl)); simp only [Act.put, List.setIfInBounds_toArray, List.set_cons_zero, List.set_cons_succ]; refine anyR_val Later.pre 1 rfl (by kernel_rfl) (by kernel_rfl) (by kernel_rfl) (fun _ _ _ _ h => h) rfl ?_; apply Exists.intro; refine ⟨fun v1 hv1 => ?_, ?_⟩; (· (go_simp; rfl)); simp only [Act.put, List.setIfInBounds_toArray, List.set_cons_zero, List.set_cons_succ]; refine anyR_val Later.pre 2 rfl (by kernel_rfl) (by kernel_rfl) (by kernel_rfl) (fun _ _ _ _ h => h) rfl ?_; apply Exists.intro; refine ⟨fun v1 hv1 => ?_, ?_⟩; (· (go_simp; rfl)); simp only [Act.put, List.setIfInBounds_toArray, List.set_cons_zero, List.set_cons_succ]; refine anyR_val Later.pre 3 rfl (by kernel_rfl) (by kernel_rfl) (by kernel_rfl) (fun _ _ _ _ h => h) rfl ?_; apply Exists.intro; refine ⟨fun v1 hv1 => ?_, ?_⟩; (· (go_simp; rfl)); simp only [Act.put, List.setIfInBounds_toArray, List.set_cons_zero, List.set_cons_succ]; refine anyR_val Later.pre 4 rfl (by kernel_rfl) (by kernel_rfl) (by kernel_rfl) (fun _ _ _ _ h => h) rfl ?_; apply Exists.intro; refine ⟨fun v1 hv1 => ?_, ?_⟩; (· (go_simp; rfl)); simp only [Act.put, List.setIfInBounds_toArray, List.set_cons_zero, List.set_cons_succ]; refine anyR_val Later.pre 5 rfl (by kernel_rfl) (by kernel_rfl) (by kernel_rfl) (fun _ _ _ _ h => h) rfl ?_; apply Exists.intro; refine ⟨fun v1 hv1 => ?_, ?_⟩; (· (go_simp; rfl)); simp only [Act.put, List.setIfInBounds_toArray, List.set_cons_zero, List.set_cons_succ]; refine anyR_val Later.pre 6 rfl (by kernel_rfl) (by kernel_rfl) (by kernel_rfl) (fun _ _ _ _ h => h) rfl ?_; apply Exists.intro; refine ⟨fun v1 hv1 => ?_, ?_⟩; (· (go_simp; rfl)); simp only [Act.put, List.setIfInBounds_toArray, List.set_cons_zero, List.set_cons_succ]; refine anyR_val Later.pre 7 rfl (by kernel_rfl) (by kernel_rfl) (by kernel_rfl) (fun _ _ _ _ h => h) rfl ?_; apply Exists.intro; refine ⟨fun v1 hv1 => ?_, ?_⟩; (· (go_simp; rfl)); simp only [Act.put, List.setIfInBounds_toArray, List.set_cons_zero, List.set_cons_succ]; refine anyR_val Later.pre 8 rfl (by kernel_rfl) (by kernel_rfl) (by kernel_rfl) (fun _ _ _ _ h => h) rfl ?_; apply Exists.intro; refine ⟨fun v1 hv1 => ?_, ?_⟩; (· (go_simp; rfl)); simp only [Act.put, List.setIfInBounds_toArray, List.set_cons_zero, List.set_cons_succ]; refine anyR_val Later.pre 9 rfl (by kernel_rfl) (by kernel_rfl) (by kernel_rfl) (fun _ _ _ _ h => h) rfl ?_; apply Exists.intro; refine ⟨fun v1 hv1 => ?_, ?_⟩; (· (go_simp; rfl)); simp only [Act.put, List.setIfInBounds_toArray, List.set_cons_zero, List.set_cons_succ]; refine anyR_val Later.pre 10 rfl (by kernel_rfl) (by kernel_rfl) (by kernel_rfl) (fun _ _ _ _ h => h) rfl ?_; apply Exists.intro; refine ⟨fun v1 hv1 => ?_, ?_⟩; (· (go_simp; rfl)); simp only [Act.put, List.setIfInBounds_toArray, List.set_cons_zero, List.set_cons_succ]; clear q0 q1 q2 q3 k0 k1; refine anyR_done (by kernel_rfl) (fun V9 hV9 => ?_)
              go_wp2_with fail
              go_ret
              exact ⟨by rw [HVV.out]; rfl, Later.trans hb4 (lr.trans (hV0.trans hV9))⟩
            · go_upto_region 6 with fail; refine anyR_begin (R := Later) Later.pre Later.drew 11 rfl (by kernel_rfl) (fun V0 hV0 => ?_); have q0 : ∀ v, Later V0 v → v.cell? ⟨b, off + k * 2, none⟩ = some (.string _) := (fun v hv => (hV0.trans hv).cell d0); have q1 : ∀ v, Later V0 v → v.cell? ⟨b, off + k * 2 + 1, none⟩ = some (.string _) := (fun v hv => (hV0.trans hv).cell d1); have q2 : ∀ v, Later V0 v → v.cell? ⟨b2, off2 + k * 2, none⟩ = some (.string _) := (fun v hv => (hV0.trans hv).cell e0); have q3 : ∀ v, Later V0 v → v.cell? ⟨b2, off2 + k * 2 + 1, none⟩ = some (.string _) := (fun v hv => (hV0.trans hv).cell e1); clear d0 d1 e0 e1 k0 k1; have k0 : ∀ v, Later V0 v → ∀ j, v.cell? ⟨gc, j, none⟩ = #[Value.string s1, .slice (some ⟨b, off, none⟩) h1.length c1, .slice a3 z1.length c3][j]? := (fun v hv => block_cell (later_keep (lr.trans (hV0.trans hv)) C0.out)); have k1 : ∀ v, Later V0 v → ∀ j, v.cell? ⟨gc + 1, j, none⟩ = #[Value.string s2, .slice (some ⟨b2, off2, none⟩) h2.length c2, .slice a4 z2.length c4][j]? := (fun v hv => block_cell (later_keep (lr.trans (hV0.trans hv)) C1.out)); refine anyR_val Later.pre 0 rfl (by kernel_rfl) (by kernel_rfl) (by kernel_rfl) (fun _ _ _ _ h => h) rfl ?_; apply Exists.intro; refine ⟨fun v1 hv1 => ?_, ?_⟩; (· (go_simp; rfl)); simp only [Act.put, List.setIfInBounds_toArray, List.set_cons_zero, List.set_cons_succ]; refine anyR_val Later.pre 1 rfl (by kernel_rfl) (by kernel_rfl) (by kernel_rfl) (fun _ _ _ _ h => h) rfl ?_; apply Exists.intro; refine ⟨fun v1 hv1 => ?_, ?_⟩; (· (go_simp; rfl)); simp only [Act.put, List.setIfInBounds_toArray, List.set_cons_zero, List.set_cons_succ]; refine anyR_val Later.pre 2 rfl (by kernel_rfl) (by kernel_rfl) (by kernel_rfl) (fun _ _ _ _ h => h) rfl ?_; apply Exists.intro; refine ⟨fun v1 hv1 => ?_, ?_⟩; (· (go_simp; rfl)); simp only [Act.put, List.setIfInBounds_toArray, List.set_cons_zero, List.set_cons_succ]; refine anyR_val Later.pre 3 rfl (by kernel_rfl) (by kernel_rfl) (by kernel_rfl) (fun _ _ _ _ h => h) rfl ?_; apply Exists.intro; refine ⟨fun v1 hv1 => ?_, ?_⟩; (· (go_simp; rfl)); simp only [Act.put, List.setIfInBounds_toArray, List.set_cons_zero, List.set_cons_succ]; refine anyR_val Later.pre 4 rfl (by kernel_rfl) (by kernel_rfl) (by kernel_rfl) (fun _ _ _ _ h => h) rfl ?_; apply Exists.intro; refine ⟨fun v1 hv1 => ?_, ?_⟩; (· (go_simp; rfl)); simp only [Act.put, List.setIfInBounds_toArray, List.set_cons_zero, List.set_cons_succ]; refine anyR_val Later.pre 5 rfl (by kernel_rfl) (by kernel_rfl) (by kernel_rfl) (fun _ _ _ _ h => h) rfl ?_; apply Exists.intro; refine ⟨fun v1 hv1 => ?_, ?_⟩; (· (go_simp; rfl)); simp only [Act.put, List.setIfInBounds_toArray, List.set_cons_zero, List.set_cons_succ]; refine anyR_val Later.pre 6 rfl (by kernel_rfl) (by kernel_rfl) (by kernel_rfl) (fun _ _ _ _ h => h) rfl ?_; apply Exists.intro; refine ⟨fun v1 hv1 => ?_, ?_⟩; (· (go_simp; rfl)); simp only [Act.put, List.setIfInBounds_toArray, List.set_cons_zero, List.set_cons_succ]; refine anyR_val Later.pre 7 rfl (by kernel_rfl) (by kernel_rfl) (by kernel_rfl) (fun _ _ _ _ h => h) rfl ?_; apply Exists.intro; refine ⟨fun v1 hv1 => ?_, ?_⟩; (· (go_simp; rfl)); simp only [Act.put, List.setIfInBounds_toArray, List.set_cons_zero, List.set_cons_succ]; refine anyR_val Later.pre 8 rfl (by kernel_rfl) (by kernel_rfl) (by kernel_rfl) (fun _ _ _ _ h => h) rfl ?_; apply Exists.intro; refine ⟨fun v1 hv1 => ?_, ?_⟩; (· (go_simp; rfl)); simp only [Act.put, List.setIfInBounds_toArray, List.set_cons_zero, List.set_cons_succ]; refine anyR_val Later.pre 9 rfl (by kernel_rfl) (by kernel_rfl) (by kernel_rfl) (fun _ _ _ _ h => h) rfl ?_; apply Exists.intro; refine ⟨fun v1 hv1 => ?_, ?_⟩; (· (go_simp; rfl)); simp only [Act.put, List.setIfInBounds_toArray, List.set_cons_zero, List.set_cons_succ]; refine anyR_val Later.pre 10 rfl (by kernel_rfl) (by kernel_rfl) (by kernel_rfl) (fun _ _ _ _ h => h) rfl ?_; apply Exists.intro; refine ⟨fun v1 hv1 => ?_, ?_⟩; (· (go_simp; rfl)); simp only [Act.put, List.setIfInBounds_toArray, List.set_cons_zero, List.set_cons_succ]; clear q0 q1 q2 q3 k0 k1; refine anyR_done (by kernel_rfl) (fun V9 hV9 => ?_)
              go_wp2_with fail
              go_ret
              exact ⟨by rw [HVV.out]; rfl, Later.trans hb4 (lr.trans (hV0.trans hV9))⟩
        · obtain rfl : k = h1.length := by omega
          have hnl : ¬ ((h1.length : Nat) : Int) < (h1.length : Int) := by omega
          have HVV : Hid (r = true) := by show _ = _; rw [HV2.out, decide_eq_true_eq]; have := heq.out; rw [List.take_length] at this; rw [this, HNE.out, List.take_length]
          go_wp2_with fail
          go_ret
          exact ⟨by rw [HVV.out]; rfl, Later.trans hb4 lr⟩
end Go.Proofs.YtifdocjagnhncaaDoor

/- A guarded operation that is not wanted is passed over. -/
namespace Go.Proofs.YtifdocjagnhncaaDoor
open Go.RowKit Go.Shelf
set_option maxRecDepth 100000
set_option linter.unusedVariables false
set_option linter.unusedSimpArgs false

section
variable {P : Program} {l : List Oper} {Q : Exit → Act → World → Prop} {fuel : Nat} {listed : Array Bool} {a : Act} {w : World} {R : World → World → Prop}
/-- Number i, whose guard does not hold, is passed over first. -/
theorem anyR_skipG (hp : Pre R) (i : Nat) {oi : Oper} (hi : nthOp l i = some oi)
    (hs : Region.noSelect l.toArray = true) (hf : Region.free .any l.toArray listed i = true) (hr : (Region.ready .any l.toArray listed).contains i = true)
    (hQ : ∀ v c a w, Q (.panic c) (a.put oi.dst v) w → Q (.panic c) a w) (hg : Region.wanted oi (yielded l.toArray a.tmps) = false)
    (h : wpAnyR P .any l.toArray Q R fuel (listed.setIfInBounds i true) (a.put oi.dst undef) w) : wpAnyR P .any l.toArray Q R (fuel + 1) listed a w := by
  have hi' : l.toArray[i]? = some oi := by rw [← hi, nthOp_eq]; simp
  exact wpAnyR_first hp.1 hp.2 hi' (Region.noSelect_spec hs) (hQ undef) fuel listed a w (Region.free_spec hi' hf) (by simpa using hr) (.inr ⟨hg, rfl⟩) h
end

end Go.Proofs.YtifdocjagnhncaaDoor

/- A guarded operation that is the only one to come next. -/
namespace Go.Proofs.YtifdocjagnhncaaDoor
open Go.RowKit Go.Shelf
set_option maxRecDepth 100000
set_option linter.unusedVariables false
set_option linter.unusedSimpArgs false

section
variable {P : Program} {l : List Oper} {Q : Exit → Act → World → Prop} {fuel : Nat} {listed : Array Bool} {a : Act} {w : World} {R : World → World → Prop}
theorem anyR_oneG (i : Nat) {oi : Oper} (hi : nthOp l i = some oi) (hr : Region.ready .any l.toArray listed = [i]) (hg : Region.wanted oi (yielded l.toArray a.tmps) = true)
    (h1 : ∀ w', R w w' → oi.wp P a w' (fun a' w'' => R w' w'' ∧ wpAnyR P .any l.toArray Q R fuel (listed.setIfInBounds i true) a' w'') Q) :
    wpAnyR P .any l.toArray Q R (fuel + 1) listed a w := by
  have hi' : l.toArray[i]? = some oi := by rw [← hi, nthOp_eq]; simp
  refine ⟨fun h0 => (by rw [hr] at h0; cases h0), fun k hk w' hw' => ?_⟩
  rw [hr] at hk
  unfold wpOp
  obtain rfl : k = i := by simpa using hk
  rw [hi']; simp only [hg, if_true]; exact .inl (h1 w' hw')
end

end Go.Proofs.YtifdocjagnhncaaDoor

/- The law's rewrite; the walk of SipRight. -/
namespace Go.Proofs.YtifdocjagnhncaaDoor
open Go.RowKit Go.Shelf
set_option maxRecDepth 100000
set_option linter.unusedVariables false
set_option linter.unusedSimpArgs false

/-- How long a message of few headers is. -/
theorem szM_few2 {st : ByteArray} {hs : List Hr} {n : Nat} (h1 : st.size ≤ 140737488351232) (h2 : ∀ o ∈ hs, o.1.size ≤ 140737488351232 ∧ o.2.size ≤ 140737488351232) (h3 : n ≤ 140737488351232) : szM st (hs.take 100) n ≤ 9000000000000000000 ∧ (hs.take 100).length ≤ 100 ∧ ∀ o ∈ hs.take 100, o.1.size ≤ 140737488355328 ∧ o.2.size ≤ 140737488355328 := by
  have hl : (hs.take 100).length ≤ 100 := by rw [List.length_take]; omega
  have h2' : ∀ o ∈ hs.take 100, o.1.size ≤ 140737488351232 ∧ o.2.size ≤ 140737488351232 := fun o ho => h2 o (List.mem_of_mem_take ho)
  generalize hs.take 100 = l at *
  have : ∀ m (l : List Hr), l.length ≤ m → (∀ o ∈ l, o.1.size ≤ 140737488351232 ∧ o.2.size ≤ 140737488351232) → hsz l ≤ m * 281474976702468 := by
    intro m
    induction m with
    | zero => intro l hl _; have : l = [] := List.eq_nil_of_length_eq_zero (by omega); subst this; simp [hsz]
    | succ m ih =>
      intro l hl h
      cases l with
      | nil => simp [hsz]
      | cons a l =>
        have h1 := ih l (by simpa using hl) (fun o ho => h o (by simp [ho]))
        have h2 := h a (by simp)
        unfold hsz at h1 ⊢
        simp only [List.map_cons, List.sum_cons]
        omega
  have h4 := this 100 l hl h2'
  unfold szM
  exact ⟨by omega, hl, fun o ho => by have := h2' o ho; omega⟩

theorem rwHs_names (c : Cg) (st : ByteArray) (hs : List Hr) (zb : List Int) : (rwHs c st hs zb).length = hs.length ∧ ∀ j (h1 : j < hs.length) (h2 : j < (rwHs c st hs zb).length), (rwHs c st hs zb)[j].1 = hs[j].1 := by
  unfold rwHs
  split
  · unfold mgH
    exact ⟨by simp, fun j h1 h2 => by simp⟩
  · exact ⟨rfl, fun j h1 h2 => rfl⟩
theorem rw_right (c : Cg) (st : ByteArray) (hs : List Hr) (zb : List Int) : rgB st (rwHs c st hs zb) (rwZb c st hs zb).length = rgB st hs zb.length := by
  unfold rwHs rwZb
  split
  · rename_i ok
    unfold rwOk at ok
    simp only [Bool.and_eq_true] at ok
    rw [nmsB_len, ok.1, ok.2]
  · rfl
theorem rw_sz (c : Cg) (hc : c.wf) (st : ByteArray) (hs : List Hr) (zb : List Int) (hz : szM st hs zb.length ≤ 9000000000000000000) (hb : ∀ o ∈ hs, o.1.size ≤ 140737488355328 ∧ o.2.size ≤ 140737488355328) :
    szM st (rwHs c st hs zb) (rwZb c st hs zb).length ≤ 9000000000000000000 ∧ ∀ o ∈ rwHs c st hs zb, o.1.size ≤ 140737488355328 ∧ o.2.size ≤ 140737488355328 := by
  unfold rwHs rwZb
  split
  · rename_i ok
    unfold rwOk at ok
    simp only [Bool.and_eq_true] at ok
    rw [nmsB_len]
    have h1 := rgB_sz ok.2
    have h2 := (rgB_facts ok.2).2.2.2.2
    exact ⟨by omega, fun o ho => by have := h2 o ho; omega⟩
  · exact ⟨hz, hb⟩
end Go.Proofs.YtifdocjagnhncaaDoor

/- The walk of SipBuilds. -/
namespace Go.Proofs.YtifdocjagnhncaaDoor
open Go.RowKit Go.Shelf
set_option maxRecDepth 100000
set_option linter.unusedVariables false
set_option linter.unusedSimpArgs false

section
variable {P : Program} {l : List Oper} {Q : Exit → Act → World → Prop} {fuel : Nat} {listed : Array Bool} {a : Act} {w : World} {R : World → World → Prop}
theorem anyT_three (i j k : Nat) {oi oj ok : Oper} (hi : nthOp l i = some oi) (hj : nthOp l j = some oj) (hk : nthOp l k = some ok) (hr : Region.ready .any l.toArray listed = [i, j, k]) (gi : oi.guard = none) (gj : oj.guard = none) (gk : ok.guard = none)
    (h1 : oi.wp P a w (fun a' w'' => R w w'' ∧ wpAnyT P .any l.toArray Q R fuel (listed.setIfInBounds i true) a' w'') Q)
    (h2 : oj.wp P a w (fun a' w'' => R w w'' ∧ wpAnyT P .any l.toArray Q R fuel (listed.setIfInBounds j true) a' w'') Q)
    (h3 : ok.wp P a w (fun a' w'' => R w w'' ∧ wpAnyT P .any l.toArray Q R fuel (listed.setIfInBounds k true) a' w'') Q) :
    wpAnyT P .any l.toArray Q R (fuel + 1) listed a w := by
  have hi' : l.toArray[i]? = some oi := by rw [← hi, nthOp_eq]; simp
  have hj' : l.toArray[j]? = some oj := by rw [← hj, nthOp_eq]; simp
  have hk' : l.toArray[k]? = some ok := by rw [← hk, nthOp_eq]; simp
  refine ⟨fun h0 => (by rw [hr] at h0; cases h0), fun x hx => ?_⟩
  rw [hr] at hx
  unfold wpOp
  have hx' : x = i ∨ x = j ∨ x = k := by simpa using hx
  rcases hx' with rfl | rfl | rfl
  · rw [hi']; simp only [Region.wanted, gi]; exact .inl h1
  · rw [hj']; simp only [Region.wanted, gj]; exact .inl h2
  · rw [hk']; simp only [Region.wanted, gk]; exact .inl h3
end

set_option maxHeartbeats 4000000 in
theorem few_ex (st : ByteArray) (sa ba : Option Addr) (scp bcp : Nat) (hs : List Hr) (zb : List Int) (w : World) (hH : RdM w.heap.size w (.slice sa hs.length scp) hs) (hB : Rd w.heap.size w (.slice ba zb.length bcp) zb) :
    Calls Tryd.prog 12 #[.agg #[.string st, .slice sa hs.length scp, .slice ba zb.length bcp]] w fun e w' => e = .returned (.agg #[.string st, .slice sa (min hs.length 100) scp, .slice ba zb.length bcp]) ∧ Later w w' := by
  obtain ⟨_, _, e1, hsc1, hsc2⟩ := hH.slice
  cases e1
  obtain ⟨_, _, e2, hbc1, hbc2⟩ := hB.slice
  cases e2
  have HM1 : Hid (100 < hs.length → min hs.length 100 = 100) := fun h => Nat.min_eq_right (by omega)
  have HM2 : Hid (¬ 100 < hs.length → min hs.length 100 = hs.length) := fun h => Nat.min_eq_left (by omega)
  have hb4 : Later w ((w.alloc (.cells #[.string st, .slice sa hs.length scp, .slice ba zb.length bcp] 25)).alloc (.cells #[.string ⟨#[]⟩, .slice none 0 0, .slice none 0 0] 25)) := ((Below.refl _ _).alloc (Nat.le_refl _) _).alloc (by simp) _
  have C0 := hide (show ((w.alloc (.cells #[.string st, .slice sa hs.length scp, .slice ba zb.length bcp] 25)).alloc (.cells #[.string ⟨#[]⟩, .slice none 0 0, .slice none 0 0] 25)).heap[w.heap.size]? = some (.cells #[.string st, .slice sa hs.length scp, .slice ba zb.length bcp] 25 (0, 0)) from (Below.heap_alloc _ _ _ (by simp)).trans (heap_alloc_new w _))
  have C1 : Hid (((w.alloc (.cells #[.string st, .slice sa hs.length scp, .slice ba zb.length bcp] 25)).alloc (.cells #[.string ⟨#[]⟩, .slice none 0 0, .slice none 0 0] 25)).heap[w.heap.size + 1]? = some (.cells #[.string ⟨#[]⟩, .slice none 0 0, .slice none 0 0] 25 (0, 0))) := by
    have := heap_alloc_new (w.alloc (.cells #[.string st, .slice sa hs.length scp, .slice ba zb.length bcp] 25)) (.cells #[.string ⟨#[]⟩, .slice none 0 0, .slice none 0 0] 25)
    rw [World.size_alloc] at this
    exact this
  go_enter Tryd.func12, Tryd.ntmps12
  go_upto_region 1 with fail
  generalize (w.alloc (.cells #[.string st, .slice sa hs.length scp, .slice ba zb.length bcp] 25)).alloc (.cells #[.string ⟨#[]⟩, .slice none 0 0, .slice none 0 0] 25) = w4 at *
  generalize hgc : w.heap.size = gc at C0 C1 ⊢
  have k0 := block_cell C0.out
  have HGC := hide hgc
  clear hgc
  by_cases hgt : 100 < hs.length
  · have hgt' : (100 : Int) < (hs.length : Int) := by omega
    obtain ⟨b, off, cap, e, _⟩ := hH.cells (by omega)
    cases e
    have HME := hide (HM1.out hgt)
    clear HM1 HM2
    have f0 := block_frozen C0.out
    have k1 := block_cell C1.out
    have f1 := block_frozen C1.out
    have hcap : ¬ scp = 0 := by omega
    have hcp1 : (100 : Int) ≤ (scp : Int) := by omega
    go_upto_region 3 with fail
    have D0 := heap_set1 C0.out 1 (.slice (some ⟨b, off, none⟩) 100 scp)
    have D1 := hsetS_ne (m := gc) (j := 1) (v := .slice (some ⟨b, off, none⟩) 100 scp) C1.out (by omega)
    have hb1 : But (fun b => b = gc ∨ b = gc + 1) w4 (w4.setCell ⟨gc, 1, none⟩ (.slice (some ⟨b, off, none⟩) 100 scp)) := (But.refl _ _).setCell (.inl rfl) _
    clear k0 f0 k1 f1
    generalize w4.setCell ⟨gc, 1, none⟩ _ = V1 at *
    have D0' : V1.heap[gc]? = some (.cells #[.string st, .slice (some ⟨b, off, none⟩) 100 scp, .slice ba zb.length bcp] 25 (0, 0)) := D0
    have k0 := block_cell D0'
    have k1 := block_cell D1
    have f1 := block_frozen D1
    go_wp2_with fail
    generalize hV : (((V1.setCell ⟨gc + 1, 0, none⟩ _).setCell ⟨gc + 1, 1, none⟩ _).setCell ⟨gc + 1, 2, none⟩ _) = V8
    have hV9 : V8 = putRow V1 (gc + 1) 0 [.string st, .slice (some ⟨b, off, none⟩) 100 scp, .slice ba zb.length bcp] := hV.symm
    have hb8 : But (fun b => b = gc ∨ b = gc + 1) w4 V8 := by rw [hV9]; exact putRow_but (E := fun b => b = gc ∨ b = gc + 1) (n := gc + 1) (.inr rfl) _ _ _ _ hb1
    have p8 := putRow_all [.string st, .slice (some ⟨b, off, none⟩) 100 scp, .slice ba zb.length bcp] D1 rfl
    rw [← hV9] at p8
    clear hV hV9
    have P8 := block_cell p8
    have hw8 : Later w V8 := Below.trans hb4 (hb8.below hb4.size (fun k h e => by have := HGC.out; omega))
    exact bodyPost_ret (v := .agg #[.string st, .slice (some ⟨b, off, none⟩) 100 scp, .slice ba zb.length bcp]) (by simp [results, Tryd.results12, go_sem, P8]) rfl ⟨by rw [HME.out], hw8⟩
  · have hgt' : ¬ (100 : Int) < (hs.length : Int) := by omega
    have HME := hide (HM2.out hgt)
    clear HM1 HM2
    have k1 := block_cell C1.out
    have f1 := block_frozen C1.out
    go_wp2_with fail
    generalize hV : (((w4.setCell ⟨gc + 1, 0, none⟩ _).setCell ⟨gc + 1, 1, none⟩ _).setCell ⟨gc + 1, 2, none⟩ _) = V8
    have hV9 : V8 = putRow w4 (gc + 1) 0 [.string st, .slice sa hs.length scp, .slice ba zb.length bcp] := hV.symm
    have hb8 : But (fun b => b = gc + 1) w4 V8 := by rw [hV9]; exact putRow_but (E := fun b => b = gc + 1) (n := gc + 1) rfl _ _ _ _ (But.refl _ _)
    have p8 := putRow_all [.string st, .slice sa hs.length scp, .slice ba zb.length bcp] C1.out rfl
    rw [← hV9] at p8
    clear hV hV9
    have P8 := block_cell p8
    have hw8 : Later w V8 := Below.trans hb4 (hb8.below hb4.size (fun k h e => by have := HGC.out; omega))
    exact bodyPost_ret (v := .agg #[.string st, .slice sa hs.length scp, .slice ba zb.length bcp]) (by simp [results, Tryd.results12, go_sem, P8]) rfl ⟨by rw [HME.out], hw8⟩


set_option maxRecDepth 100000 in
set_option maxHeartbeats 16000000 in
theorem walk_SipBuilds (w : World) (hT : TabI w) (hM : TabM w) (st : ByteArray) (sv sb : Value) (hs : List Hr) (zb : List Int) (hy : Mt.By zb) (hH : RdM w.heap.size w sv hs) (hB : Rd w.heap.size w sb zb)
    (hz : st.size ≤ 140737488351232 ∧ (∀ o ∈ hs, o.1.size ≤ 140737488351232 ∧ o.2.size ≤ 140737488351232) ∧ hs.length ≤ 140737488351232 ∧ zb.length ≤ 140737488351232)
    (st2 : ByteArray) (sv2 sb2 : Value) (hs2 : List Hr) (zb2 : List Int) (hy2 : Mt.By zb2) (hH2 : RdM w.heap.size w sv2 hs2) (hB2 : Rd w.heap.size w sb2 zb2)
    (hzb : st2.size ≤ 140737488351232 ∧ (∀ o ∈ hs2, o.1.size ≤ 140737488351232 ∧ o.2.size ≤ 140737488351232) ∧ hs2.length ≤ 140737488351232 ∧ zb2.length ≤ 140737488351232) :
    Calls Tryd.prog 4 #[.agg #[.string st, sv, sb], .agg #[.string st2, sv2, sb2]] w fun e w' => e = .returned (.bool true) ∧ Below w.heap.size w w' := by
  obtain ⟨sa, scp, rfl, _, _⟩ := hH.slice
  obtain ⟨ba, bcp, rfl, _, _⟩ := hB.slice
  obtain ⟨sa2, sc2, rfl, _, _⟩ := hH2.slice
  obtain ⟨ba2, bc2, rfl, _, _⟩ := hB2.slice
  obtain ⟨hz1, hz2, _, hz3⟩ := hz
  obtain ⟨hzz, hl100, hzo⟩ := szM_few2 (n := zb.length) hz1 hz2 hz3
  have hl2 : (hs2.take 100).length ≤ 100 := by rw [List.length_take]; omega
  have hb4 : Later w ((w.alloc (.cells #[.string st, .slice sa hs.length scp, .slice ba zb.length bcp] 25)).alloc (.cells #[.string st2, .slice sa2 hs2.length sc2, .slice ba2 zb2.length bc2] 25)) := ((Below.refl _ _).alloc (Nat.le_refl _) _).alloc (by simp) _
  have C0 := hide (show ((w.alloc (.cells #[.string st, .slice sa hs.length scp, .slice ba zb.length bcp] 25)).alloc (.cells #[.string st2, .slice sa2 hs2.length sc2, .slice ba2 zb2.length bc2] 25)).heap[w.heap.size]? = some (.cells #[.string st, .slice sa hs.length scp, .slice ba zb.length bcp] 25 (0, 0)) from (Below.heap_alloc _ _ _ (by simp)).trans (heap_alloc_new w _))
  have C1 : Hid (((w.alloc (.cells #[.string st, .slice sa hs.length scp, .slice ba zb.length bcp] 25)).alloc (.cells #[.string st2, .slice sa2 hs2.length sc2, .slice ba2 zb2.length bc2] 25)).heap[w.heap.size + 1]? = some (.cells #[.string st2, .slice sa2 hs2.length sc2, .slice ba2 zb2.length bc2] 25 (0, 0))) := by
    have := heap_alloc_new (w.alloc (.cells #[.string st, .slice sa hs.length scp, .slice ba zb.length bcp] 25)) (.cells #[.string st2, .slice sa2 hs2.length sc2, .slice ba2 zb2.length bc2] 25)
    rw [World.size_alloc] at this
    exact this
  have HF1 := hide (fun W (l : Later w W) => few_ex st sa ba scp bcp hs zb W (hH.later l) (hB.later l))
  have HF2 := hide (fun W (l : Later w W) => few_ex st2 sa2 ba2 sc2 bc2 hs2 zb2 W (hH2.later l) (hB2.later l))
  have hI1 : RdM w.heap.size w (.slice sa (min hs.length 100) scp) (hs.take 100) := by
    by_cases h : 100 < hs.length
    · rw [Nat.min_eq_right (by omega)]; exact hH.take 100 (by omega)
    · rw [Nat.min_eq_left (by omega), List.take_of_length_le (by omega)]; exact hH
  have hI2 : RdM w.heap.size w (.slice sa2 (min hs2.length 100) sc2) (hs2.take 100) := by
    by_cases h : 100 < hs2.length
    · rw [Nat.min_eq_right (by omega)]; exact hH2.take 100 (by omega)
    · rw [Nat.min_eq_left (by omega), List.take_of_length_le (by omega)]; exact hH2
  have hn1 : min hs.length 100 = (hs.take 100).length := by rw [List.length_take]; omega
  have hn2 : min hs2.length 100 = (hs2.take 100).length := by rw [List.length_take]; omega
  have HN1 := hide hn1
  have HN2 := hide hn2
  clear hn1 hn2
  generalize min hs.length 100 = n1 at *
  generalize min hs2.length 100 = n2 at *
  generalize hs.take 100 = hl at *
  generalize hs2.take 100 = hm at *
  have HI1 := hide (fun W (l : Later w W) => hI1.later l)
  have HI2 := hide (fun W (l : Later w W) => hI2.later l)
  have HBB := hide (fun W (l : Later w W) => hB.later l)
  have HBC := hide (fun W (l : Later w W) => hB2.later l)
  have HTT := hide (fun W (l : Later w W) => hT.later l)
  have HL := hide (fun W (l : Later w W) => live14_any W (hT.later l) (hM.later l))
  clear hI1 hI2 hH hH2 hB hB2 hT hM hz2
  go_enter Tryd.func4, Tryd.ntmps4
  go_upto_region 1 with fail
  generalize (w.alloc (.cells #[.string st, .slice sa hs.length scp, .slice ba zb.length bcp] 25)).alloc (.cells #[.string st2, .slice sa2 hs2.length sc2, .slice ba2 zb2.length bc2] 25) = w0 at *
  generalize hgm : w.heap.size = gm at C0 C1 ⊢
  have HGM := hide hgm
  clear hgm
  refine wp_mono (Q := fun e a' W => e = .normal ∧ ∃ g5 g6, a' = { tmps := #[.agg #[.string st, .slice sa hs.length scp, .slice ba zb.length bcp], .agg #[.string st2, .slice sa2 hs2.length sc2, .slice ba2 zb2.length bc2], .pointer (some ⟨gm, 0, none⟩), .pointer (some ⟨gm + 1, 0, none⟩), .bool false, .pointer (some ⟨g5, 0, none⟩), .pointer (some ⟨g6, 0, none⟩), undef, undef, undef, undef, .agg #[.string st, .slice sa hs.length scp, .slice ba zb.length bcp], .agg #[.string st, .slice sa n1 scp, .slice ba zb.length bcp], .agg #[.string st2, .slice sa2 hs2.length sc2, .slice ba2 zb2.length bc2], .agg #[.string st2, .slice sa2 n2 sc2, .slice ba2 zb2.length bc2], undef, undef, undef, undef, undef, undef, undef, undef, undef, undef, undef, undef, undef, undef, undef, undef, undef, undef, undef, undef, undef, undef, undef, undef, undef, undef, undef, undef, undef, undef, undef, undef, undef, undef, undef, undef, undef, undef, undef, undef, undef, undef, undef], defers := [] } ∧ Later w0 W ∧ W.heap[g5]? = some (.cells #[.string st, .slice sa n1 scp, .slice ba zb.length bcp] 25 (0, 0)) ∧ W.heap[g6]? = some (.cells #[.string st2, .slice sa2 n2 sc2, .slice ba2 zb2.length bc2] 25 (0, 0))) ?reg ?rest
  case reg =>
    refine anyT_begin (R := Below w0.heap.size) 8 rfl (by kernel_rfl) ?_
    have L0 : Later w0 w0.drew := Later.drew w0
    generalize w0.drew = U0 at *
    have hg1 := (Array.getElem?_eq_some_iff.1 C1.out).1
    have kM : ∀ u, Below w0.heap.size U0 u → ∀ j, u.cell? ⟨gm, j, none⟩ = (#[.string st, .slice sa hs.length scp, .slice ba zb.length bcp] : Array Value)[j]? := fun u hu => block_cell (later_keep (Below.trans L0 hu) C0.out)
    have kN : ∀ u, Below w0.heap.size U0 u → ∀ j, u.cell? ⟨gm + 1, j, none⟩ = (#[.string st2, .slice sa2 hs2.length sc2, .slice ba2 zb2.length bc2] : Array Value)[j]? := fun u hu => block_cell (later_keep (Below.trans L0 hu) C1.out)
    refine anyT_val (⟨fun A => Below.refl _ _, fun A B C h k => h.trans k⟩ : Pre (Below w0.heap.size)) 0 rfl (by kernel_rfl) (by kernel_rfl) (by kernel_rfl) (fun _ _ _ _ h => by cases h.1) rfl ?_; apply Exists.intro; refine ⟨fun v1 hv1 => ?_, ?_⟩; (· (go_simp; rfl)); simp only [Act.put, List.setIfInBounds_toArray, List.set_cons_zero, List.set_cons_succ]
    refine anyT_val (⟨fun A => Below.refl _ _, fun A B C h k => h.trans k⟩ : Pre (Below w0.heap.size)) 2 rfl (by kernel_rfl) (by kernel_rfl) (by kernel_rfl) (fun _ _ _ _ h => by cases h.1) rfl ?_; apply Exists.intro; refine ⟨fun v1 hv1 => ?_, ?_⟩; (· (go_simp; rfl)); simp only [Act.put, List.setIfInBounds_toArray, List.set_cons_zero, List.set_cons_succ]
    clear kM kN
    refine anyT_three 1 4 5 rfl rfl rfl (by kernel_rfl) rfl rfl rfl ?_ ?_ ?_
    · skip
      refine wp_enter 12 #[.agg #[.string st, .slice sa hs.length scp, .slice ba zb.length bcp]] (by go_simp) ?_
      refine (HF1.out U0 (Later.trans hb4 L0)).mono ?_
      rintro e U1 ⟨rfl, m1⟩
      have L1 : Later w0 U1 := Below.trans L0 (m1.mono L0.size)
      refine ⟨m1.mono L0.size, ?_⟩
      simp only [Act.put, List.setIfInBounds_toArray, List.set_cons_zero, List.set_cons_succ]
      refine anyT_three 3 4 5 rfl rfl rfl (by kernel_rfl) rfl rfl rfl ?_ ?_ ?_
      · skip
        refine wp_enter 12 #[.agg #[.string st2, .slice sa2 hs2.length sc2, .slice ba2 zb2.length bc2]] (by go_simp) ?_
        refine (HF2.out U1 (Later.trans hb4 L1)).mono ?_
        rintro e U2 ⟨rfl, m2⟩
        have L2 : Later w0 U2 := Below.trans L1 (m2.mono L1.size)
        refine ⟨m2.mono L1.size, ?_⟩
        simp only [Act.put, List.setIfInBounds_toArray, List.set_cons_zero, List.set_cons_succ]
        refine anyT_two 4 5 rfl rfl (by kernel_rfl) rfl rfl ?_ ?_
        · skip
          have m3 := later_allocR U2 (.cells #[.string ⟨#[]⟩, .slice none 0 0, .slice none 0 0] 25)
          have Z4 := heap_alloc_new U2 (.cells #[.string ⟨#[]⟩, .slice none 0 0, .slice none 0 0] 25)
          unfold Oper.wp
          go_simp
          have L3 : Later w0 (U2.alloc (.cells #[.string ⟨#[]⟩, .slice none 0 0, .slice none 0 0] 25)) := Below.trans L2 (m3.mono L2.size)
          refine ⟨m3.mono L2.size, ?_⟩
          change wpAnyT _ _ _ _ _ _ _ _ (U2.alloc (.cells #[.string ⟨#[]⟩, .slice none 0 0, .slice none 0 0] 25))
          have S4 : w0.heap.size ≤ U2.heap.size := L2.size
          generalize U2.alloc (.cells #[.string ⟨#[]⟩, .slice none 0 0, .slice none 0 0] 25) = U3 at *
          generalize U2.heap.size = g4 at Z4 S4 ⊢
          refine anyT_one 5 rfl (by kernel_rfl) rfl ?_
          have m4 := later_allocR U3 (.cells #[.string ⟨#[]⟩, .slice none 0 0, .slice none 0 0] 25)
          have Z5 := heap_alloc_new U3 (.cells #[.string ⟨#[]⟩, .slice none 0 0, .slice none 0 0] 25)
          have hne : g4 ≠ U3.heap.size := Nat.ne_of_lt (Array.getElem?_eq_some_iff.1 Z4).1
          unfold Oper.wp
          go_simp
          have L4 : Later w0 (U3.alloc (.cells #[.string ⟨#[]⟩, .slice none 0 0, .slice none 0 0] 25)) := Below.trans L3 (m4.mono L3.size)
          refine ⟨m4.mono L3.size, ?_⟩
          change wpAnyT _ _ _ _ _ _ _ _ (U3.alloc (.cells #[.string ⟨#[]⟩, .slice none 0 0, .slice none 0 0] 25))
          have S5 : w0.heap.size ≤ U3.heap.size := L3.size
          generalize U3.alloc (.cells #[.string ⟨#[]⟩, .slice none 0 0, .slice none 0 0] 25) = U4 at *
          generalize U3.heap.size = g5 at Z5 S5 hne ⊢
          replace Z4 := later_keep m4 Z4
          have kA := block_cell Z4; have fA := block_frozen Z4; refine anyT_one 6 rfl (by kernel_rfl) rfl ?_; unfold Oper.wp; go_simp; clear kA fA; generalize hV : (((U4.setCell ⟨g4, 0, none⟩ _).setCell ⟨g4, 1, none⟩ _).setCell ⟨g4, 2, none⟩ _) = V8; have hV9 : V8 = putRow U4 g4 0 [.string st, .slice sa n1 scp, .slice ba zb.length bcp] := hV.symm; have hb8 : But (fun b => b = g4) U4 V8 := (by rw [hV9]; exact putRow_but (E := fun b => b = g4) (n := g4) rfl _ _ _ _ (But.refl _ _)); have p8 := putRow_all [.string st, .slice sa n1 scp, .slice ba zb.length bcp] Z4 rfl; rw [← hV9] at p8; clear hV hV9; have B8 : Below w0.heap.size U4 V8 := hb8.below (L4.size) (fun k h e => by omega); refine ⟨B8, ?_⟩; have Y5 := (hb8.block g5 (Array.getElem?_eq_some_iff.1 Z5).1 (fun e => hne e.symm)).trans Z5; have kA := block_cell Y5; have fA := block_frozen Y5; refine anyT_one 7 rfl (by kernel_rfl) rfl ?_; unfold Oper.wp; go_simp; clear kA fA; generalize hV : (((V8.setCell ⟨g5, 0, none⟩ _).setCell ⟨g5, 1, none⟩ _).setCell ⟨g5, 2, none⟩ _) = V9; have hV9 : V9 = putRow V8 g5 0 [.string st2, .slice sa2 n2 sc2, .slice ba2 zb2.length bc2] := hV.symm; have hb9 : But (fun b => b = g5) V8 V9 := (by rw [hV9]; exact putRow_but (E := fun b => b = g5) (n := g5) rfl _ _ _ _ (But.refl _ _)); have p9 := putRow_all [.string st2, .slice sa2 n2 sc2, .slice ba2 zb2.length bc2] Y5 rfl; rw [← hV9] at p9; clear hV hV9; have B9 : Below w0.heap.size V8 V9 := hb9.below (Nat.le_trans (L4.size) hb8.size) (fun k h e => by omega); refine ⟨B9, ?_⟩; have q8 := (hb9.block g4 (Array.getElem?_eq_some_iff.1 p8).1 hne).trans p8; refine anyT_done (by kernel_rfl) ?_; exact ⟨rfl, g4, g5, rfl, Below.trans L4 (B8.trans B9), q8, p9⟩
        · skip
          have m3 := later_allocR U2 (.cells #[.string ⟨#[]⟩, .slice none 0 0, .slice none 0 0] 25)
          have Z5 := heap_alloc_new U2 (.cells #[.string ⟨#[]⟩, .slice none 0 0, .slice none 0 0] 25)
          unfold Oper.wp
          go_simp
          have L3 : Later w0 (U2.alloc (.cells #[.string ⟨#[]⟩, .slice none 0 0, .slice none 0 0] 25)) := Below.trans L2 (m3.mono L2.size)
          refine ⟨m3.mono L2.size, ?_⟩
          change wpAnyT _ _ _ _ _ _ _ _ (U2.alloc (.cells #[.string ⟨#[]⟩, .slice none 0 0, .slice none 0 0] 25))
          have S5 : w0.heap.size ≤ U2.heap.size := L2.size
          generalize U2.alloc (.cells #[.string ⟨#[]⟩, .slice none 0 0, .slice none 0 0] 25) = U3 at *
          generalize U2.heap.size = g5 at Z5 S5 ⊢
          refine anyT_one 4 rfl (by kernel_rfl) rfl ?_
          have m4 := later_allocR U3 (.cells #[.string ⟨#[]⟩, .slice none 0 0, .slice none 0 0] 25)
          have Z4 := heap_alloc_new U3 (.cells #[.string ⟨#[]⟩, .slice none 0 0, .slice none 0 0] 25)
          have hne : U3.heap.size ≠ g5 := Nat.ne_of_gt (Array.getElem?_eq_some_iff.1 Z5).1
          unfold Oper.wp
          go_simp
          have L4 : Later w0 (U3.alloc (.cells #[.string ⟨#[]⟩, .slice none 0 0, .slice none 0 0] 25)) := Below.trans L3 (m4.mono L3.size)
          refine ⟨m4.mono L3.size, ?_⟩
          change wpAnyT _ _ _ _ _ _ _ _ (U3.alloc (.cells #[.string ⟨#[]⟩, .slice none 0 0, .slice none 0 0] 25))
          have S4 : w0.heap.size ≤ U3.heap.size := L3.size
          generalize U3.alloc (.cells #[.string ⟨#[]⟩, .slice none 0 0, .slice none 0 0] 25) = U4 at *
          generalize U3.heap.size = g4 at Z4 S4 hne ⊢
          replace Z5 := later_keep m4 Z5
          have kA := block_cell Z4; have fA := block_frozen Z4; refine anyT_one 6 rfl (by kernel_rfl) rfl ?_; unfold Oper.wp; go_simp; clear kA fA; generalize hV : (((U4.setCell ⟨g4, 0, none⟩ _).setCell ⟨g4, 1, none⟩ _).setCell ⟨g4, 2, none⟩ _) = V8; have hV9 : V8 = putRow U4 g4 0 [.string st, .slice sa n1 scp, .slice ba zb.length bcp] := hV.symm; have hb8 : But (fun b => b = g4) U4 V8 := (by rw [hV9]; exact putRow_but (E := fun b => b = g4) (n := g4) rfl _ _ _ _ (But.refl _ _)); have p8 := putRow_all [.string st, .slice sa n1 scp, .slice ba zb.length bcp] Z4 rfl; rw [← hV9] at p8; clear hV hV9; have B8 : Below w0.heap.size U4 V8 := hb8.below (L4.size) (fun k h e => by omega); refine ⟨B8, ?_⟩; have Y5 := (hb8.block g5 (Array.getElem?_eq_some_iff.1 Z5).1 (fun e => hne e.symm)).trans Z5; have kA := block_cell Y5; have fA := block_frozen Y5; refine anyT_one 7 rfl (by kernel_rfl) rfl ?_; unfold Oper.wp; go_simp; clear kA fA; generalize hV : (((V8.setCell ⟨g5, 0, none⟩ _).setCell ⟨g5, 1, none⟩ _).setCell ⟨g5, 2, none⟩ _) = V9; have hV9 : V9 = putRow V8 g5 0 [.string st2, .slice sa2 n2 sc2, .slice ba2 zb2.length bc2] := hV.symm; have hb9 : But (fun b => b = g5) V8 V9 := (by rw [hV9]; exact putRow_but (E := fun b => b = g5) (n := g5) rfl _ _ _ _ (But.refl _ _)); have p9 := putRow_all [.string st2, .slice sa2 n2 sc2, .slice ba2 zb2.length bc2] Y5 rfl; rw [← hV9] at p9; clear hV hV9; have B9 : Below w0.heap.size V8 V9 := hb9.below (Nat.le_trans (L4.size) hb8.size) (fun k h e => by omega); refine ⟨B9, ?_⟩; have q8 := (hb9.block g4 (Array.getElem?_eq_some_iff.1 p8).1 hne).trans p8; refine anyT_done (by kernel_rfl) ?_; exact ⟨rfl, g4, g5, rfl, Below.trans L4 (B8.trans B9), q8, p9⟩
      · skip
        have m2 := later_allocR U1 (.cells #[.string ⟨#[]⟩, .slice none 0 0, .slice none 0 0] 25)
        have Z4 := heap_alloc_new U1 (.cells #[.string ⟨#[]⟩, .slice none 0 0, .slice none 0 0] 25)
        unfold Oper.wp
        go_simp
        have L2 : Later w0 (U1.alloc (.cells #[.string ⟨#[]⟩, .slice none 0 0, .slice none 0 0] 25)) := Below.trans L1 (m2.mono L1.size)
        refine ⟨m2.mono L1.size, ?_⟩
        change wpAnyT _ _ _ _ _ _ _ _ (U1.alloc (.cells #[.string ⟨#[]⟩, .slice none 0 0, .slice none 0 0] 25))
        have S4 : w0.heap.size ≤ U1.heap.size := L1.size
        generalize U1.alloc (.cells #[.string ⟨#[]⟩, .slice none 0 0, .slice none 0 0] 25) = U2 at *
        generalize U1.heap.size = g4 at Z4 S4 ⊢
        refine anyT_two 3 5 rfl rfl (by kernel_rfl) rfl rfl ?_ ?_
        · skip
          refine wp_enter 12 #[.agg #[.string st2, .slice sa2 hs2.length sc2, .slice ba2 zb2.length bc2]] (by go_simp) ?_
          refine (HF2.out U2 (Later.trans hb4 L2)).mono ?_
          rintro e U3 ⟨rfl, m3⟩
          have L3 : Later w0 U3 := Below.trans L2 (m3.mono L2.size)
          refine ⟨m3.mono L2.size, ?_⟩
          simp only [Act.put, List.setIfInBounds_toArray, List.set_cons_zero, List.set_cons_succ]
          replace Z4 := later_keep m3 Z4
          refine anyT_one 5 rfl (by kernel_rfl) rfl ?_
          have m4 := later_allocR U3 (.cells #[.string ⟨#[]⟩, .slice none 0 0, .slice none 0 0] 25)
          have Z5 := heap_alloc_new U3 (.cells #[.string ⟨#[]⟩, .slice none 0 0, .slice none 0 0] 25)
          have hne : g4 ≠ U3.heap.size := Nat.ne_of_lt (Array.getElem?_eq_some_iff.1 Z4).1
          unfold Oper.wp
          go_simp
          have L4 : Later w0 (U3.alloc (.cells #[.string ⟨#[]⟩, .slice none 0 0, .slice none 0 0] 25)) := Below.trans L3 (m4.mono L3.size)
          refine ⟨m4.mono L3.size, ?_⟩
          change wpAnyT _ _ _ _ _ _ _ _ (U3.alloc (.cells #[.string ⟨#[]⟩, .slice none 0 0, .slice none 0 0] 25))
          have S5 : w0.heap.size ≤ U3.heap.size := L3.size
          generalize U3.alloc (.cells #[.string ⟨#[]⟩, .slice none 0 0, .slice none 0 0] 25) = U4 at *
          generalize U3.heap.size = g5 at Z5 S5 hne ⊢
          replace Z4 := later_keep m4 Z4
          have kA := block_cell Z4; have fA := block_frozen Z4; refine anyT_one 6 rfl (by kernel_rfl) rfl ?_; unfold Oper.wp; go_simp; clear kA fA; generalize hV : (((U4.setCell ⟨g4, 0, none⟩ _).setCell ⟨g4, 1, none⟩ _).setCell ⟨g4, 2, none⟩ _) = V8; have hV9 : V8 = putRow U4 g4 0 [.string st, .slice sa n1 scp, .slice ba zb.length bcp] := hV.symm; have hb8 : But (fun b => b = g4) U4 V8 := (by rw [hV9]; exact putRow_but (E := fun b => b = g4) (n := g4) rfl _ _ _ _ (But.refl _ _)); have p8 := putRow_all [.string st, .slice sa n1 scp, .slice ba zb.length bcp] Z4 rfl; rw [← hV9] at p8; clear hV hV9; have B8 : Below w0.heap.size U4 V8 := hb8.below (L4.size) (fun k h e => by omega); refine ⟨B8, ?_⟩; have Y5 := (hb8.block g5 (Array.getElem?_eq_some_iff.1 Z5).1 (fun e => hne e.symm)).trans Z5; have kA := block_cell Y5; have fA := block_frozen Y5; refine anyT_one 7 rfl (by kernel_rfl) rfl ?_; unfold Oper.wp; go_simp; clear kA fA; generalize hV : (((V8.setCell ⟨g5, 0, none⟩ _).setCell ⟨g5, 1, none⟩ _).setCell ⟨g5, 2, none⟩ _) = V9; have hV9 : V9 = putRow V8 g5 0 [.string st2, .slice sa2 n2 sc2, .slice ba2 zb2.length bc2] := hV.symm; have hb9 : But (fun b => b = g5) V8 V9 := (by rw [hV9]; exact putRow_but (E := fun b => b = g5) (n := g5) rfl _ _ _ _ (But.refl _ _)); have p9 := putRow_all [.string st2, .slice sa2 n2 sc2, .slice ba2 zb2.length bc2] Y5 rfl; rw [← hV9] at p9; clear hV hV9; have B9 : Below w0.heap.size V8 V9 := hb9.below (Nat.le_trans (L4.size) hb8.size) (fun k h e => by omega); refine ⟨B9, ?_⟩; have q8 := (hb9.block g4 (Array.getElem?_eq_some_iff.1 p8).1 hne).trans p8; refine anyT_done (by kernel_rfl) ?_; exact ⟨rfl, g4, g5, rfl, Below.trans L4 (B8.trans B9), q8, p9⟩
        · skip
          have m3 := later_allocR U2 (.cells #[.string ⟨#[]⟩, .slice none 0 0, .slice none 0 0] 25)
          have Z5 := heap_alloc_new U2 (.cells #[.string ⟨#[]⟩, .slice none 0 0, .slice none 0 0] 25)
          have hne : g4 ≠ U2.heap.size := Nat.ne_of_lt (Array.getElem?_eq_some_iff.1 Z4).1
          unfold Oper.wp
          go_simp
          have L3 : Later w0 (U2.alloc (.cells #[.string ⟨#[]⟩, .slice none 0 0, .slice none 0 0] 25)) := Below.trans L2 (m3.mono L2.size)
          refine ⟨m3.mono L2.size, ?_⟩
          change wpAnyT _ _ _ _ _ _ _ _ (U2.alloc (.cells #[.string ⟨#[]⟩, .slice none 0 0, .slice none 0 0] 25))
          have S5 : w0.heap.size ≤ U2.heap.size := L2.size
          generalize U2.alloc (.cells #[.string ⟨#[]⟩, .slice none 0 0, .slice none 0 0] 25) = U3 at *
          generalize U2.heap.size = g5 at Z5 S5 hne ⊢
          replace Z4 := later_keep m3 Z4
          refine anyT_one 3 rfl (by kernel_rfl) rfl ?_
          refine wp_enter 12 #[.agg #[.string st2, .slice sa2 hs2.length sc2, .slice ba2 zb2.length bc2]] (by go_simp) ?_
          refine (HF2.out U3 (Later.trans hb4 L3)).mono ?_
          rintro e U4 ⟨rfl, m4⟩
          have L4 : Later w0 U4 := Below.trans L3 (m4.mono L3.size)
          refine ⟨m4.mono L3.size, ?_⟩
          simp only [Act.put, List.setIfInBounds_toArray, List.set_cons_zero, List.set_cons_succ]
          replace Z4 := later_keep m4 Z4
          replace Z5 := later_keep m4 Z5
          have kA := block_cell Z4; have fA := block_frozen Z4; refine anyT_one 6 rfl (by kernel_rfl) rfl ?_; unfold Oper.wp; go_simp; clear kA fA; generalize hV : (((U4.setCell ⟨g4, 0, none⟩ _).setCell ⟨g4, 1, none⟩ _).setCell ⟨g4, 2, none⟩ _) = V8; have hV9 : V8 = putRow U4 g4 0 [.string st, .slice sa n1 scp, .slice ba zb.length bcp] := hV.symm; have hb8 : But (fun b => b = g4) U4 V8 := (by rw [hV9]; exact putRow_but (E := fun b => b = g4) (n := g4) rfl _ _ _ _ (But.refl _ _)); have p8 := putRow_all [.string st, .slice sa n1 scp, .slice ba zb.length bcp] Z4 rfl; rw [← hV9] at p8; clear hV hV9; have B8 : Below w0.heap.size U4 V8 := hb8.below (L4.size) (fun k h e => by omega); refine ⟨B8, ?_⟩; have Y5 := (hb8.block g5 (Array.getElem?_eq_some_iff.1 Z5).1 (fun e => hne e.symm)).trans Z5; have kA := block_cell Y5; have fA := block_frozen Y5; refine anyT_one 7 rfl (by kernel_rfl) rfl ?_; unfold Oper.wp; go_simp; clear kA fA; generalize hV : (((V8.setCell ⟨g5, 0, none⟩ _).setCell ⟨g5, 1, none⟩ _).setCell ⟨g5, 2, none⟩ _) = V9; have hV9 : V9 = putRow V8 g5 0 [.string st2, .slice sa2 n2 sc2, .slice ba2 zb2.length bc2] := hV.symm; have hb9 : But (fun b => b = g5) V8 V9 := (by rw [hV9]; exact putRow_but (E := fun b => b = g5) (n := g5) rfl _ _ _ _ (But.refl _ _)); have p9 := putRow_all [.string st2, .slice sa2 n2 sc2, .slice ba2 zb2.length bc2] Y5 rfl; rw [← hV9] at p9; clear hV hV9; have B9 : Below w0.heap.size V8 V9 := hb9.below (Nat.le_trans (L4.size) hb8.size) (fun k h e => by omega); refine ⟨B9, ?_⟩; have q8 := (hb9.block g4 (Array.getElem?_eq_some_iff.1 p8).1 hne).trans p8; refine anyT_done (by kernel_rfl) ?_; exact ⟨rfl, g4, g5, rfl, Below.trans L4 (B8.trans B9), q8, p9⟩
      · skip
        have m2 := later_allocR U1 (.cells #[.string ⟨#[]⟩, .slice none 0 0, .slice none 0 0] 25)
        have Z5 := heap_alloc_new U1 (.cells #[.string ⟨#[]⟩, .slice none 0 0, .slice none 0 0] 25)
        unfold Oper.wp
        go_simp
        have L2 : Later w0 (U1.alloc (.cells #[.string ⟨#[]⟩, .slice none 0 0, .slice none 0 0] 25)) := Below.trans L1 (m2.mono L1.size)
        refine ⟨m2.mono L1.size, ?_⟩
        change wpAnyT _ _ _ _ _ _ _ _ (U1.alloc (.cells #[.string ⟨#[]⟩, .slice none 0 0, .slice none 0 0] 25))
        have S5 : w0.heap.size ≤ U1.heap.size := L1.size
        generalize U1.alloc (.cells #[.string ⟨#[]⟩, .slice none 0 0, .slice none 0 0] 25) = U2 at *
        generalize U1.heap.size = g5 at Z5 S5 ⊢
        refine anyT_two 3 4 rfl rfl (by kernel_rfl) rfl rfl ?_ ?_
        · skip
          refine wp_enter 12 #[.agg #[.string st2, .slice sa2 hs2.length sc2, .slice ba2 zb2.length bc2]] (by go_simp) ?_
          refine (HF2.out U2 (Later.trans hb4 L2)).mono ?_
          rintro e U3 ⟨rfl, m3⟩
          have L3 : Later w0 U3 := Below.trans L2 (m3.mono L2.size)
          refine ⟨m3.mono L2.size, ?_⟩
          simp only [Act.put, List.setIfInBounds_toArray, List.set_cons_zero, List.set_cons_succ]
          replace Z5 := later_keep m3 Z5
          refine anyT_one 4 rfl (by kernel_rfl) rfl ?_
          have m4 := later_allocR U3 (.cells #[.string ⟨#[]⟩, .slice none 0 0, .slice none 0 0] 25)
          have Z4 := heap_alloc_new U3 (.cells #[.string ⟨#[]⟩, .slice none 0 0, .slice none 0 0] 25)
          have hne : U3.heap.size ≠ g5 := Nat.ne_of_gt (Array.getElem?_eq_some_iff.1 Z5).1
          unfold Oper.wp
          go_simp
          have L4 : Later w0 (U3.alloc (.cells #[.string ⟨#[]⟩, .slice none 0 0, .slice none 0 0] 25)) := Below.trans L3 (m4.mono L3.size)
          refine ⟨m4.mono L3.size, ?_⟩
          change wpAnyT _ _ _ _ _ _ _ _ (U3.alloc (.cells #[.string ⟨#[]⟩, .slice none 0 0, .slice none 0 0] 25))
          have S4 : w0.heap.size ≤ U3.heap.size := L3.size
          generalize U3.alloc (.cells #[.string ⟨#[]⟩, .slice none 0 0, .slice none 0 0] 25) = U4 at *
          generalize U3.heap.size = g4 at Z4 S4 hne ⊢
          replace Z5 := later_keep m4 Z5
          have kA := block_cell Z4; have fA := block_frozen Z4; refine anyT_one 6 rfl (by kernel_rfl) rfl ?_; unfold Oper.wp; go_simp; clear kA fA; generalize hV : (((U4.setCell ⟨g4, 0, none⟩ _).setCell ⟨g4, 1, none⟩ _).setCell ⟨g4, 2, none⟩ _) = V8; have hV9 : V8 = putRow U4 g4 0 [.string st, .slice sa n1 scp, .slice ba zb.length bcp] := hV.symm; have hb8 : But (fun b => b = g4) U4 V8 := (by rw [hV9]; exact putRow_but (E := fun b => b = g4) (n := g4) rfl _ _ _ _ (But.refl _ _)); have p8 := putRow_all [.string st, .slice sa n1 scp, .slice ba zb.length bcp] Z4 rfl; rw [← hV9] at p8; clear hV hV9; have B8 : Below w0.heap.size U4 V8 := hb8.below (L4.size) (fun k h e => by omega); refine ⟨B8, ?_⟩; have Y5 := (hb8.block g5 (Array.getElem?_eq_some_iff.1 Z5).1 (fun e => hne e.symm)).trans Z5; have kA := block_cell Y5; have fA := block_frozen Y5; refine anyT_one 7 rfl (by kernel_rfl) rfl ?_; unfold Oper.wp; go_simp; clear kA fA; generalize hV : (((V8.setCell ⟨g5, 0, none⟩ _).setCell ⟨g5, 1, none⟩ _).setCell ⟨g5, 2, none⟩ _) = V9; have hV9 : V9 = putRow V8 g5 0 [.string st2, .slice sa2 n2 sc2, .slice ba2 zb2.length bc2] := hV.symm; have hb9 : But (fun b => b = g5) V8 V9 := (by rw [hV9]; exact putRow_but (E := fun b => b = g5) (n := g5) rfl _ _ _ _ (But.refl _ _)); have p9 := putRow_all [.string st2, .slice sa2 n2 sc2, .slice ba2 zb2.length bc2] Y5 rfl; rw [← hV9] at p9; clear hV hV9; have B9 : Below w0.heap.size V8 V9 := hb9.below (Nat.le_trans (L4.size) hb8.size) (fun k h e => by omega); refine ⟨B9, ?_⟩; have q8 := (hb9.block g4 (Array.getElem?_eq_some_iff.1 p8).1 hne).trans p8; refine anyT_done (by kernel_rfl) ?_; exact ⟨rfl, g4, g5, rfl, Below.trans L4 (B8.trans B9), q8, p9⟩
        · skip
          have m3 := later_allocR U2 (.cells #[.string ⟨#[]⟩, .slice none 0 0, .slice none 0 0] 25)
          have Z4 := heap_alloc_new U2 (.cells #[.string ⟨#[]⟩, .slice none 0 0, .slice none 0 0] 25)
          have hne : U2.heap.size ≠ g5 := Nat.ne_of_gt (Array.getElem?_eq_some_iff.1 Z5).1
          unfold Oper.wp
          go_simp
          have L3 : Later w0 (U2.alloc (.cells #[.string ⟨#[]⟩, .slice none 0 0, .slice none 0 0] 25)) := Below.trans L2 (m3.mono L2.size)
          refine ⟨m3.mono L2.size, ?_⟩
          change wpAnyT _ _ _ _ _ _ _ _ (U2.alloc (.cells #[.string ⟨#[]⟩, .slice none 0 0, .slice none 0 0] 25))
          have S4 : w0.heap.size ≤ U2.heap.size := L2.size
          generalize U2.alloc (.cells #[.string ⟨#[]⟩, .slice none 0 0, .slice none 0 0] 25) = U3 at *
          generalize U2.heap.size = g4 at Z4 S4 hne ⊢
          replace Z5 := later_keep m3 Z5
          refine anyT_one 3 rfl (by kernel_rfl) rfl ?_
          refine wp_enter 12 #[.agg #[.string st2, .slice sa2 hs2.length sc2, .slice ba2 zb2.length bc2]] (by go_simp) ?_
          refine (HF2.out U3 (Later.trans hb4 L3)).mono ?_
          rintro e U4 ⟨rfl, m4⟩
          have L4 : Later w0 U4 := Below.trans L3 (m4.mono L3.size)
          refine ⟨m4.mono L3.size, ?_⟩
          simp only [Act.put, List.setIfInBounds_toArray, List.set_cons_zero, List.set_cons_succ]
          replace Z4 := later_keep m4 Z4
          replace Z5 := later_keep m4 Z5
          have kA := block_cell Z4; have fA := block_frozen Z4; refine anyT_one 6 rfl (by kernel_rfl) rfl ?_; unfold Oper.wp; go_simp; clear kA fA; generalize hV : (((U4.setCell ⟨g4, 0, none⟩ _).setCell ⟨g4, 1, none⟩ _).setCell ⟨g4, 2, none⟩ _) = V8; have hV9 : V8 = putRow U4 g4 0 [.string st, .slice sa n1 scp, .slice ba zb.length bcp] := hV.symm; have hb8 : But (fun b => b = g4) U4 V8 := (by rw [hV9]; exact putRow_but (E := fun b => b = g4) (n := g4) rfl _ _ _ _ (But.refl _ _)); have p8 := putRow_all [.string st, .slice sa n1 scp, .slice ba zb.length bcp] Z4 rfl; rw [← hV9] at p8; clear hV hV9; have B8 : Below w0.heap.size U4 V8 := hb8.below (L4.size) (fun k h e => by omega); refine ⟨B8, ?_⟩; have Y5 := (hb8.block g5 (Array.getElem?_eq_some_iff.1 Z5).1 (fun e => hne e.symm)).trans Z5; have kA := block_cell Y5; have fA := block_frozen Y5; refine anyT_one 7 rfl (by kernel_rfl) rfl ?_; unfold Oper.wp; go_simp; clear kA fA; generalize hV : (((V8.setCell ⟨g5, 0, none⟩ _).setCell ⟨g5, 1, none⟩ _).setCell ⟨g5, 2, none⟩ _) = V9; have hV9 : V9 = putRow V8 g5 0 [.string st2, .slice sa2 n2 sc2, .slice ba2 zb2.length bc2] := hV.symm; have hb9 : But (fun b => b = g5) V8 V9 := (by rw [hV9]; exact putRow_but (E := fun b => b = g5) (n := g5) rfl _ _ _ _ (But.refl _ _)); have p9 := putRow_all [.string st2, .slice sa2 n2 sc2, .slice ba2 zb2.length bc2] Y5 rfl; rw [← hV9] at p9; clear hV hV9; have B9 : Below w0.heap.size V8 V9 := hb9.below (Nat.le_trans (L4.size) hb8.size) (fun k h e => by omega); refine ⟨B9, ?_⟩; have q8 := (hb9.block g4 (Array.getElem?_eq_some_iff.1 p8).1 hne).trans p8; refine anyT_done (by kernel_rfl) ?_; exact ⟨rfl, g4, g5, rfl, Below.trans L4 (B8.trans B9), q8, p9⟩
    · skip
      have m1 := later_allocR U0 (.cells #[.string ⟨#[]⟩, .slice none 0 0, .slice none 0 0] 25)
      have Z4 := heap_alloc_new U0 (.cells #[.string ⟨#[]⟩, .slice none 0 0, .slice none 0 0] 25)
      unfold Oper.wp
      go_simp
      have L1 : Later w0 (U0.alloc (.cells #[.string ⟨#[]⟩, .slice none 0 0, .slice none 0 0] 25)) := Below.trans L0 (m1.mono L0.size)
      refine ⟨m1.mono L0.size, ?_⟩
      change wpAnyT _ _ _ _ _ _ _ _ (U0.alloc (.cells #[.string ⟨#[]⟩, .slice none 0 0, .slice none 0 0] 25))
      have S4 : w0.heap.size ≤ U0.heap.size := L0.size
      generalize U0.alloc (.cells #[.string ⟨#[]⟩, .slice none 0 0, .slice none 0 0] 25) = U1 at *
      generalize U0.heap.size = g4 at Z4 S4 ⊢
      refine anyT_two 1 5 rfl rfl (by kernel_rfl) rfl rfl ?_ ?_
      · skip
        refine wp_enter 12 #[.agg #[.string st, .slice sa hs.length scp, .slice ba zb.length bcp]] (by go_simp) ?_
        refine (HF1.out U1 (Later.trans hb4 L1)).mono ?_
        rintro e U2 ⟨rfl, m2⟩
        have L2 : Later w0 U2 := Below.trans L1 (m2.mono L1.size)
        refine ⟨m2.mono L1.size, ?_⟩
        simp only [Act.put, List.setIfInBounds_toArray, List.set_cons_zero, List.set_cons_succ]
        replace Z4 := later_keep m2 Z4
        refine anyT_two 3 5 rfl rfl (by kernel_rfl) rfl rfl ?_ ?_
        · skip
          refine wp_enter 12 #[.agg #[.string st2, .slice sa2 hs2.length sc2, .slice ba2 zb2.length bc2]] (by go_simp) ?_
          refine (HF2.out U2 (Later.trans hb4 L2)).mono ?_
          rintro e U3 ⟨rfl, m3⟩
          have L3 : Later w0 U3 := Below.trans L2 (m3.mono L2.size)
          refine ⟨m3.mono L2.size, ?_⟩
          simp only [Act.put, List.setIfInBounds_toArray, List.set_cons_zero, List.set_cons_succ]
          replace Z4 := later_keep m3 Z4
          refine anyT_one 5 rfl (by kernel_rfl) rfl ?_
          have m4 := later_allocR U3 (.cells #[.string ⟨#[]⟩, .slice none 0 0, .slice none 0 0] 25)
          have Z5 := heap_alloc_new U3 (.cells #[.string ⟨#[]⟩, .slice none 0 0, .slice none 0 0] 25)
          have hne : g4 ≠ U3.heap.size := Nat.ne_of_lt (Array.getElem?_eq_some_iff.1 Z4).1
          unfold Oper.wp
          go_simp
          have L4 : Later w0 (U3.alloc (.cells #[.string ⟨#[]⟩, .slice none 0 0, .slice none 0 0] 25)) := Below.trans L3 (m4.mono L3.size)
          refine ⟨m4.mono L3.size, ?_⟩
          change wpAnyT _ _ _ _ _ _ _ _ (U3.alloc (.cells #[.string ⟨#[]⟩, .slice none 0 0, .slice none 0 0] 25))
          have S5 : w0.heap.size ≤ U3.heap.size := L3.size
          generalize U3.alloc (.cells #[.string ⟨#[]⟩, .slice none 0 0, .slice none 0 0] 25) = U4 at *
          generalize U3.heap.size = g5 at Z5 S5 hne ⊢
          replace Z4 := later_keep m4 Z4
          have kA := block_cell Z4; have fA := block_frozen Z4; refine anyT_one 6 rfl (by kernel_rfl) rfl ?_; unfold Oper.wp; go_simp; clear kA fA; generalize hV : (((U4.setCell ⟨g4, 0, none⟩ _).setCell ⟨g4, 1, none⟩ _).setCell ⟨g4, 2, none⟩ _) = V8; have hV9 : V8 = putRow U4 g4 0 [.string st, .slice sa n1 scp, .slice ba zb.length bcp] := hV.symm; have hb8 : But (fun b => b = g4) U4 V8 := (by rw [hV9]; exact putRow_but (E := fun b => b = g4) (n := g4) rfl _ _ _ _ (But.refl _ _)); have p8 := putRow_all [.string st, .slice sa n1 scp, .slice ba zb.length bcp] Z4 rfl; rw [← hV9] at p8; clear hV hV9; have B8 : Below w0.heap.size U4 V8 := hb8.below (L4.size) (fun k h e => by omega); refine ⟨B8, ?_⟩; have Y5 := (hb8.block g5 (Array.getElem?_eq_some_iff.1 Z5).1 (fun e => hne e.symm)).trans Z5; have kA := block_cell Y5; have fA := block_frozen Y5; refine anyT_one 7 rfl (by kernel_rfl) rfl ?_; unfold Oper.wp; go_simp; clear kA fA; generalize hV : (((V8.setCell ⟨g5, 0, none⟩ _).setCell ⟨g5, 1, none⟩ _).setCell ⟨g5, 2, none⟩ _) = V9; have hV9 : V9 = putRow V8 g5 0 [.string st2, .slice sa2 n2 sc2, .slice ba2 zb2.length bc2] := hV.symm; have hb9 : But (fun b => b = g5) V8 V9 := (by rw [hV9]; exact putRow_but (E := fun b => b = g5) (n := g5) rfl _ _ _ _ (But.refl _ _)); have p9 := putRow_all [.string st2, .slice sa2 n2 sc2, .slice ba2 zb2.length bc2] Y5 rfl; rw [← hV9] at p9; clear hV hV9; have B9 : Below w0.heap.size V8 V9 := hb9.below (Nat.le_trans (L4.size) hb8.size) (fun k h e => by omega); refine ⟨B9, ?_⟩; have q8 := (hb9.block g4 (Array.getElem?_eq_some_iff.1 p8).1 hne).trans p8; refine anyT_done (by kernel_rfl) ?_; exact ⟨rfl, g4, g5, rfl, Below.trans L4 (B8.trans B9), q8, p9⟩
        · skip
          have m3 := later_allocR U2 (.cells #[.string ⟨#[]⟩, .slice none 0 0, .slice none 0 0] 25)
          have Z5 := heap_alloc_new U2 (.cells #[.string ⟨#[]⟩, .slice none 0 0, .slice none 0 0] 25)
          have hne : g4 ≠ U2.heap.size := Nat.ne_of_lt (Array.getElem?_eq_some_iff.1 Z4).1
          unfold Oper.wp
          go_simp
          have L3 : Later w0 (U2.alloc (.cells #[.string ⟨#[]⟩, .slice none 0 0, .slice none 0 0] 25)) := Below.trans L2 (m3.mono L2.size)
          refine ⟨m3.mono L2.size, ?_⟩
          change wpAnyT _ _ _ _ _ _ _ _ (U2.alloc (.cells #[.string ⟨#[]⟩, .slice none 0 0, .slice none 0 0] 25))
          have S5 : w0.heap.size ≤ U2.heap.size := L2.size
          generalize U2.alloc (.cells #[.string ⟨#[]⟩, .slice none 0 0, .slice none 0 0] 25) = U3 at *
          generalize U2.heap.size = g5 at Z5 S5 hne ⊢
          replace Z4 := later_keep m3 Z4
          refine anyT_one 3 rfl (by kernel_rfl) rfl ?_
          refine wp_enter 12 #[.agg #[.string st2, .slice sa2 hs2.length sc2, .slice ba2 zb2.length bc2]] (by go_simp) ?_
          refine (HF2.out U3 (Later.trans hb4 L3)).mono ?_
          rintro e U4 ⟨rfl, m4⟩
          have L4 : Later w0 U4 := Below.trans L3 (m4.mono L3.size)
          refine ⟨m4.mono L3.size, ?_⟩
          simp only [Act.put, List.setIfInBounds_toArray, List.set_cons_zero, List.set_cons_succ]
          replace Z4 := later_keep m4 Z4
          replace Z5 := later_keep m4 Z5
          have kA := block_cell Z4; have fA := block_frozen Z4; refine anyT_one 6 rfl (by kernel_rfl) rfl ?_; unfold Oper.wp; go_simp; clear kA fA; generalize hV : (((U4.setCell ⟨g4, 0, none⟩ _).setCell ⟨g4, 1, none⟩ _).setCell ⟨g4, 2, none⟩ _) = V8; have hV9 : V8 = putRow U4 g4 0 [.string st, .slice sa n1 scp, .slice ba zb.length bcp] := hV.symm; have hb8 : But (fun b => b = g4) U4 V8 := (by rw [hV9]; exact putRow_but (E := fun b => b = g4) (n := g4) rfl _ _ _ _ (But.refl _ _)); have p8 := putRow_all [.string st, .slice sa n1 scp, .slice ba zb.length bcp] Z4 rfl; rw [← hV9] at p8; clear hV hV9; have B8 : Below w0.heap.size U4 V8 := hb8.below (L4.size) (fun k h e => by omega); refine ⟨B8, ?_⟩; have Y5 := (hb8.block g5 (Array.getElem?_eq_some_iff.1 Z5).1 (fun e => hne e.symm)).trans Z5; have kA := block_cell Y5; have fA := block_frozen Y5; refine anyT_one 7 rfl (by kernel_rfl) rfl ?_; unfold Oper.wp; go_simp; clear kA fA; generalize hV : (((V8.setCell ⟨g5, 0, none⟩ _).setCell ⟨g5, 1, none⟩ _).setCell ⟨g5, 2, none⟩ _) = V9; have hV9 : V9 = putRow V8 g5 0 [.string st2, .slice sa2 n2 sc2, .slice ba2 zb2.length bc2] := hV.symm; have hb9 : But (fun b => b = g5) V8 V9 := (by rw [hV9]; exact putRow_but (E := fun b => b = g5) (n := g5) rfl _ _ _ _ (But.refl _ _)); have p9 := putRow_all [.string st2, .slice sa2 n2 sc2, .slice ba2 zb2.length bc2] Y5 rfl; rw [← hV9] at p9; clear hV hV9; have B9 : Below w0.heap.size V8 V9 := hb9.below (Nat.le_trans (L4.size) hb8.size) (fun k h e => by omega); refine ⟨B9, ?_⟩; have q8 := (hb9.block g4 (Array.getElem?_eq_some_iff.1 p8).1 hne).trans p8; refine anyT_done (by kernel_rfl) ?_; exact ⟨rfl, g4, g5, rfl, Below.trans L4 (B8.trans B9), q8, p9⟩
      · skip
        have m2 := later_allocR U1 (.cells #[.string ⟨#[]⟩, .slice none 0 0, .slice none 0 0] 25)
        have Z5 := heap_alloc_new U1 (.cells #[.string ⟨#[]⟩, .slice none 0 0, .slice none 0 0] 25)
        have hne : g4 ≠ U1.heap.size := Nat.ne_of_lt (Array.getElem?_eq_some_iff.1 Z4).1
        unfold Oper.wp
        go_simp
        have L2 : Later w0 (U1.alloc (.cells #[.string ⟨#[]⟩, .slice none 0 0, .slice none 0 0] 25)) := Below.trans L1 (m2.mono L1.size)
        refine ⟨m2.mono L1.size, ?_⟩
        change wpAnyT _ _ _ _ _ _ _ _ (U1.alloc (.cells #[.string ⟨#[]⟩, .slice none 0 0, .slice none 0 0] 25))
        have S5 : w0.heap.size ≤ U1.heap.size := L1.size
        generalize U1.alloc (.cells #[.string ⟨#[]⟩, .slice none 0 0, .slice none 0 0] 25) = U2 at *
        generalize U1.heap.size = g5 at Z5 S5 hne ⊢
        replace Z4 := later_keep m2 Z4
        refine anyT_one 1 rfl (by kernel_rfl) rfl ?_
        refine wp_enter 12 #[.agg #[.string st, .slice sa hs.length scp, .slice ba zb.length bcp]] (by go_simp) ?_
        refine (HF1.out U2 (Later.trans hb4 L2)).mono ?_
        rintro e U3 ⟨rfl, m3⟩
        have L3 : Later w0 U3 := Below.trans L2 (m3.mono L2.size)
        refine ⟨m3.mono L2.size, ?_⟩
        simp only [Act.put, List.setIfInBounds_toArray, List.set_cons_zero, List.set_cons_succ]
        replace Z4 := later_keep m3 Z4
        replace Z5 := later_keep m3 Z5
        refine anyT_one 3 rfl (by kernel_rfl) rfl ?_
        refine wp_enter 12 #[.agg #[.string st2, .slice sa2 hs2.length sc2, .slice ba2 zb2.length bc2]] (by go_simp) ?_
        refine (HF2.out U3 (Later.trans hb4 L3)).mono ?_
        rintro e U4 ⟨rfl, m4⟩
        have L4 : Later w0 U4 := Below.trans L3 (m4.mono L3.size)
        refine ⟨m4.mono L3.size, ?_⟩
        simp only [Act.put, List.setIfInBounds_toArray, List.set_cons_zero, List.set_cons_succ]
        replace Z4 := later_keep m4 Z4
        replace Z5 := later_keep m4 Z5
        have kA := block_cell Z4; have fA := block_frozen Z4; refine anyT_one 6 rfl (by kernel_rfl) rfl ?_; unfold Oper.wp; go_simp; clear kA fA; generalize hV : (((U4.setCell ⟨g4, 0, none⟩ _).setCell ⟨g4, 1, none⟩ _).setCell ⟨g4, 2, none⟩ _) = V8; have hV9 : V8 = putRow U4 g4 0 [.string st, .slice sa n1 scp, .slice ba zb.length bcp] := hV.symm; have hb8 : But (fun b => b = g4) U4 V8 := (by rw [hV9]; exact putRow_but (E := fun b => b = g4) (n := g4) rfl _ _ _ _ (But.refl _ _)); have p8 := putRow_all [.string st, .slice sa n1 scp, .slice ba zb.length bcp] Z4 rfl; rw [← hV9] at p8; clear hV hV9; have B8 : Below w0.heap.size U4 V8 := hb8.below (L4.size) (fun k h e => by omega); refine ⟨B8, ?_⟩; have Y5 := (hb8.block g5 (Array.getElem?_eq_some_iff.1 Z5).1 (fun e => hne e.symm)).trans Z5; have kA := block_cell Y5; have fA := block_frozen Y5; refine anyT_one 7 rfl (by kernel_rfl) rfl ?_; unfold Oper.wp; go_simp; clear kA fA; generalize hV : (((V8.setCell ⟨g5, 0, none⟩ _).setCell ⟨g5, 1, none⟩ _).setCell ⟨g5, 2, none⟩ _) = V9; have hV9 : V9 = putRow V8 g5 0 [.string st2, .slice sa2 n2 sc2, .slice ba2 zb2.length bc2] := hV.symm; have hb9 : But (fun b => b = g5) V8 V9 := (by rw [hV9]; exact putRow_but (E := fun b => b = g5) (n := g5) rfl _ _ _ _ (But.refl _ _)); have p9 := putRow_all [.string st2, .slice sa2 n2 sc2, .slice ba2 zb2.length bc2] Y5 rfl; rw [← hV9] at p9; clear hV hV9; have B9 : Below w0.heap.size V8 V9 := hb9.below (Nat.le_trans (L4.size) hb8.size) (fun k h e => by omega); refine ⟨B9, ?_⟩; have q8 := (hb9.block g4 (Array.getElem?_eq_some_iff.1 p8).1 hne).trans p8; refine anyT_done (by kernel_rfl) ?_; exact ⟨rfl, g4, g5, rfl, Below.trans L4 (B8.trans B9), q8, p9⟩
    · skip
      have m1 := later_allocR U0 (.cells #[.string ⟨#[]⟩, .slice none 0 0, .slice none 0 0] 25)
      have Z5 := heap_alloc_new U0 (.cells #[.string ⟨#[]⟩, .slice none 0 0, .slice none 0 0] 25)
      unfold Oper.wp
      go_simp
      have L1 : Later w0 (U0.alloc (.cells #[.string ⟨#[]⟩, .slice none 0 0, .slice none 0 0] 25)) := Below.trans L0 (m1.mono L0.size)
      refine ⟨m1.mono L0.size, ?_⟩
      change wpAnyT _ _ _ _ _ _ _ _ (U0.alloc (.cells #[.string ⟨#[]⟩, .slice none 0 0, .slice none 0 0] 25))
      have S5 : w0.heap.size ≤ U0.heap.size := L0.size
      generalize U0.alloc (.cells #[.string ⟨#[]⟩, .slice none 0 0, .slice none 0 0] 25) = U1 at *
      generalize U0.heap.size = g5 at Z5 S5 ⊢
      refine anyT_two 1 4 rfl rfl (by kernel_rfl) rfl rfl ?_ ?_
      · skip
        refine wp_enter 12 #[.agg #[.string st, .slice sa hs.length scp, .slice ba zb.length bcp]] (by go_simp) ?_
        refine (HF1.out U1 (Later.trans hb4 L1)).mono ?_
        rintro e U2 ⟨rfl, m2⟩
        have L2 : Later w0 U2 := Below.trans L1 (m2.mono L1.size)
        refine ⟨m2.mono L1.size, ?_⟩
        simp only [Act.put, List.setIfInBounds_toArray, List.set_cons_zero, List.set_cons_succ]
        replace Z5 := later_keep m2 Z5
        refine anyT_two 3 4 rfl rfl (by kernel_rfl) rfl rfl ?_ ?_
        · skip
          refine wp_enter 12 #[.agg #[.string st2, .slice sa2 hs2.length sc2, .slice ba2 zb2.length bc2]] (by go_simp) ?_
          refine (HF2.out U2 (Later.trans hb4 L2)).mono ?_
          rintro e U3 ⟨rfl, m3⟩
          have L3 : Later w0 U3 := Below.trans L2 (m3.mono L2.size)
          refine ⟨m3.mono L2.size, ?_⟩
          simp only [Act.put, List.setIfInBounds_toArray, List.set_cons_zero, List.set_cons_succ]
          replace Z5 := later_keep m3 Z5
          refine anyT_one 4 rfl (by kernel_rfl) rfl ?_
          have m4 := later_allocR U3 (.cells #[.string ⟨#[]⟩, .slice none 0 0, .slice none 0 0] 25)
          have Z4 := heap_alloc_new U3 (.cells #[.string ⟨#[]⟩, .slice none 0 0, .slice none 0 0] 25)
          have hne : U3.heap.size ≠ g5 := Nat.ne_of_gt (Array.getElem?_eq_some_iff.1 Z5).1
          unfold Oper.wp
          go_simp
          have L4 : Later w0 (U3.alloc (.cells #[.string ⟨#[]⟩, .slice none 0 0, .slice none 0 0] 25)) := Below.trans L3 (m4.mono L3.size)
          refine ⟨m4.mono L3.size, ?_⟩
          change wpAnyT _ _ _ _ _ _ _ _ (U3.alloc (.cells #[.string ⟨#[]⟩, .slice none 0 0, .slice none 0 0] 25))
          have S4 : w0.heap.size ≤ U3.heap.size := L3.size
          generalize U3.alloc (.cells #[.string ⟨#[]⟩, .slice none 0 0, .slice none 0 0] 25) = U4 at *
          generalize U3.heap.size = g4 at Z4 S4 hne ⊢
          replace Z5 := later_keep m4 Z5
          have kA := block_cell Z4; have fA := block_frozen Z4; refine anyT_one 6 rfl (by kernel_rfl) rfl ?_; unfold Oper.wp; go_simp; clear kA fA; generalize hV : (((U4.setCell ⟨g4, 0, none⟩ _).setCell ⟨g4, 1, none⟩ _).setCell ⟨g4, 2, none⟩ _) = V8; have hV9 : V8 = putRow U4 g4 0 [.string st, .slice sa n1 scp, .slice ba zb.length bcp] := hV.symm; have hb8 : But (fun b => b = g4) U4 V8 := (by rw [hV9]; exact putRow_but (E := fun b => b = g4) (n := g4) rfl _ _ _ _ (But.refl _ _)); have p8 := putRow_all [.string st, .slice sa n1 scp, .slice ba zb.length bcp] Z4 rfl; rw [← hV9] at p8; clear hV hV9; have B8 : Below w0.heap.size U4 V8 := hb8.below (L4.size) (fun k h e => by omega); refine ⟨B8, ?_⟩; have Y5 := (hb8.block g5 (Array.getElem?_eq_some_iff.1 Z5).1 (fun e => hne e.symm)).trans Z5; have kA := block_cell Y5; have fA := block_frozen Y5; refine anyT_one 7 rfl (by kernel_rfl) rfl ?_; unfold Oper.wp; go_simp; clear kA fA; generalize hV : (((V8.setCell ⟨g5, 0, none⟩ _).setCell ⟨g5, 1, none⟩ _).setCell ⟨g5, 2, none⟩ _) = V9; have hV9 : V9 = putRow V8 g5 0 [.string st2, .slice sa2 n2 sc2, .slice ba2 zb2.length bc2] := hV.symm; have hb9 : But (fun b => b = g5) V8 V9 := (by rw [hV9]; exact putRow_but (E := fun b => b = g5) (n := g5) rfl _ _ _ _ (But.refl _ _)); have p9 := putRow_all [.string st2, .slice sa2 n2 sc2, .slice ba2 zb2.length bc2] Y5 rfl; rw [← hV9] at p9; clear hV hV9; have B9 : Below w0.heap.size V8 V9 := hb9.below (Nat.le_trans (L4.size) hb8.size) (fun k h e => by omega); refine ⟨B9, ?_⟩; have q8 := (hb9.block g4 (Array.getElem?_eq_some_iff.1 p8).1 hne).trans p8; refine anyT_done (by kernel_rfl) ?_; exact ⟨rfl, g4, g5, rfl, Below.trans L4 (B8.trans B9), q8, p9⟩
        · skip
          have m3 := later_allocR U2 (.cells #[.string ⟨#[]⟩, .slice none 0 0, .slice none 0 0] 25)
          have Z4 := heap_alloc_new U2 (.cells #[.string ⟨#[]⟩, .slice none 0 0, .slice none 0 0] 25)
          have hne : U2.heap.size ≠ g5 := Nat.ne_of_gt (Array.getElem?_eq_some_iff.1 Z5).1
          unfold Oper.wp
          go_simp
          have L3 : Later w0 (U2.alloc (.cells #[.string ⟨#[]⟩, .slice none 0 0, .slice none 0 0] 25)) := Below.trans L2 (m3.mono L2.size)
          refine ⟨m3.mono L2.size, ?_⟩
          change wpAnyT _ _ _ _ _ _ _ _ (U2.alloc (.cells #[.string ⟨#[]⟩, .slice none 0 0, .slice none 0 0] 25))
          have S4 : w0.heap.size ≤ U2.heap.size := L2.size
          generalize U2.alloc (.cells #[.string ⟨#[]⟩, .slice none 0 0, .slice none 0 0] 25) = U3 at *
          generalize U2.heap.size = g4 at Z4 S4 hne ⊢
          replace Z5 := later_keep m3 Z5
          refine anyT_one 3 rfl (by kernel_rfl) rfl ?_
          refine wp_enter 12 #[.agg #[.string st2, .slice sa2 hs2.length sc2, .slice ba2 zb2.length bc2]] (by go_simp) ?_
          refine (HF2.out U3 (Later.trans hb4 L3)).mono ?_
          rintro e U4 ⟨rfl, m4⟩
          have L4 : Later w0 U4 := Below.trans L3 (m4.mono L3.size)
          refine ⟨m4.mono L3.size, ?_⟩
          simp only [Act.put, List.setIfInBounds_toArray, List.set_cons_zero, List.set_cons_succ]
          replace Z4 := later_keep m4 Z4
          replace Z5 := later_keep m4 Z5
          have kA := block_cell Z4; have fA := block_frozen Z4; refine anyT_one 6 rfl (by kernel_rfl) rfl ?_; unfold Oper.wp; go_simp; clear kA fA; generalize hV : (((U4.setCell ⟨g4, 0, none⟩ _).setCell ⟨g4, 1, none⟩ _).setCell ⟨g4, 2, none⟩ _) = V8; have hV9 : V8 = putRow U4 g4 0 [.string st, .slice sa n1 scp, .slice ba zb.length bcp] := hV.symm; have hb8 : But (fun b => b = g4) U4 V8 := (by rw [hV9]; exact putRow_but (E := fun b => b = g4) (n := g4) rfl _ _ _ _ (But.refl _ _)); have p8 := putRow_all [.string st, .slice sa n1 scp, .slice ba zb.length bcp] Z4 rfl; rw [← hV9] at p8; clear hV hV9; have B8 : Below w0.heap.size U4 V8 := hb8.below (L4.size) (fun k h e => by omega); refine ⟨B8, ?_⟩; have Y5 := (hb8.block g5 (Array.getElem?_eq_some_iff.1 Z5).1 (fun e => hne e.symm)).trans Z5; have kA := block_cell Y5; have fA := block_frozen Y5; refine anyT_one 7 rfl (by kernel_rfl) rfl ?_; unfold Oper.wp; go_simp; clear kA fA; generalize hV : (((V8.setCell ⟨g5, 0, none⟩ _).setCell ⟨g5, 1, none⟩ _).setCell ⟨g5, 2, none⟩ _) = V9; have hV9 : V9 = putRow V8 g5 0 [.string st2, .slice sa2 n2 sc2, .slice ba2 zb2.length bc2] := hV.symm; have hb9 : But (fun b => b = g5) V8 V9 := (by rw [hV9]; exact putRow_but (E := fun b => b = g5) (n := g5) rfl _ _ _ _ (But.refl _ _)); have p9 := putRow_all [.string st2, .slice sa2 n2 sc2, .slice ba2 zb2.length bc2] Y5 rfl; rw [← hV9] at p9; clear hV hV9; have B9 : Below w0.heap.size V8 V9 := hb9.below (Nat.le_trans (L4.size) hb8.size) (fun k h e => by omega); refine ⟨B9, ?_⟩; have q8 := (hb9.block g4 (Array.getElem?_eq_some_iff.1 p8).1 hne).trans p8; refine anyT_done (by kernel_rfl) ?_; exact ⟨rfl, g4, g5, rfl, Below.trans L4 (B8.trans B9), q8, p9⟩
      · skip
        have m2 := later_allocR U1 (.cells #[.string ⟨#[]⟩, .slice none 0 0, .slice none 0 0] 25)
        have Z4 := heap_alloc_new U1 (.cells #[.string ⟨#[]⟩, .slice none 0 0, .slice none 0 0] 25)
        have hne : U1.heap.size ≠ g5 := Nat.ne_of_gt (Array.getElem?_eq_some_iff.1 Z5).1
        unfold Oper.wp
        go_simp
        have L2 : Later w0 (U1.alloc (.cells #[.string ⟨#[]⟩, .slice none 0 0, .slice none 0 0] 25)) := Below.trans L1 (m2.mono L1.size)
        refine ⟨m2.mono L1.size, ?_⟩
        change wpAnyT _ _ _ _ _ _ _ _ (U1.alloc (.cells #[.string ⟨#[]⟩, .slice none 0 0, .slice none 0 0] 25))
        have S4 : w0.heap.size ≤ U1.heap.size := L1.size
        generalize U1.alloc (.cells #[.string ⟨#[]⟩, .slice none 0 0, .slice none 0 0] 25) = U2 at *
        generalize U1.heap.size = g4 at Z4 S4 hne ⊢
        replace Z5 := later_keep m2 Z5
        refine anyT_one 1 rfl (by kernel_rfl) rfl ?_
        refine wp_enter 12 #[.agg #[.string st, .slice sa hs.length scp, .slice ba zb.length bcp]] (by go_simp) ?_
        refine (HF1.out U2 (Later.trans hb4 L2)).mono ?_
        rintro e U3 ⟨rfl, m3⟩
        have L3 : Later w0 U3 := Below.trans L2 (m3.mono L2.size)
        refine ⟨m3.mono L2.size, ?_⟩
        simp only [Act.put, List.setIfInBounds_toArray, List.set_cons_zero, List.set_cons_succ]
        replace Z4 := later_keep m3 Z4
        replace Z5 := later_keep m3 Z5
        refine anyT_one 3 rfl (by kernel_rfl) rfl ?_
        refine wp_enter 12 #[.agg #[.string st2, .slice sa2 hs2.length sc2, .slice ba2 zb2.length bc2]] (by go_simp) ?_
        refine (HF2.out U3 (Later.trans hb4 L3)).mono ?_
        rintro e U4 ⟨rfl, m4⟩
        have L4 : Later w0 U4 := Below.trans L3 (m4.mono L3.size)
        refine ⟨m4.mono L3.size, ?_⟩
        simp only [Act.put, List.setIfInBounds_toArray, List.set_cons_zero, List.set_cons_succ]
        replace Z4 := later_keep m4 Z4
        replace Z5 := later_keep m4 Z5
        have kA := block_cell Z4; have fA := block_frozen Z4; refine anyT_one 6 rfl (by kernel_rfl) rfl ?_; unfold Oper.wp; go_simp; clear kA fA; generalize hV : (((U4.setCell ⟨g4, 0, none⟩ _).setCell ⟨g4, 1, none⟩ _).setCell ⟨g4, 2, none⟩ _) = V8; have hV9 : V8 = putRow U4 g4 0 [.string st, .slice sa n1 scp, .slice ba zb.length bcp] := hV.symm; have hb8 : But (fun b => b = g4) U4 V8 := (by rw [hV9]; exact putRow_but (E := fun b => b = g4) (n := g4) rfl _ _ _ _ (But.refl _ _)); have p8 := putRow_all [.string st, .slice sa n1 scp, .slice ba zb.length bcp] Z4 rfl; rw [← hV9] at p8; clear hV hV9; have B8 : Below w0.heap.size U4 V8 := hb8.below (L4.size) (fun k h e => by omega); refine ⟨B8, ?_⟩; have Y5 := (hb8.block g5 (Array.getElem?_eq_some_iff.1 Z5).1 (fun e => hne e.symm)).trans Z5; have kA := block_cell Y5; have fA := block_frozen Y5; refine anyT_one 7 rfl (by kernel_rfl) rfl ?_; unfold Oper.wp; go_simp; clear kA fA; generalize hV : (((V8.setCell ⟨g5, 0, none⟩ _).setCell ⟨g5, 1, none⟩ _).setCell ⟨g5, 2, none⟩ _) = V9; have hV9 : V9 = putRow V8 g5 0 [.string st2, .slice sa2 n2 sc2, .slice ba2 zb2.length bc2] := hV.symm; have hb9 : But (fun b => b = g5) V8 V9 := (by rw [hV9]; exact putRow_but (E := fun b => b = g5) (n := g5) rfl _ _ _ _ (But.refl _ _)); have p9 := putRow_all [.string st2, .slice sa2 n2 sc2, .slice ba2 zb2.length bc2] Y5 rfl; rw [← hV9] at p9; clear hV hV9; have B9 : Below w0.heap.size V8 V9 := hb9.below (Nat.le_trans (L4.size) hb8.size) (fun k h e => by omega); refine ⟨B9, ?_⟩; have q8 := (hb9.block g4 (Array.getElem?_eq_some_iff.1 p8).1 hne).trans p8; refine anyT_done (by kernel_rfl) ?_; exact ⟨rfl, g4, g5, rfl, Below.trans L4 (B8.trans B9), q8, p9⟩
  case rest =>
    rintro e a' W ⟨rfl, g5, g6, rfl, lW, D5, D6⟩
    have LW : Later w W := Later.trans hb4 lW
    have HD5 := hide D5
    have HD6 := hide D6
    clear D5 D6 C0 C1 lW hb4 HF1 HF2
    dsimp only
    have hzl : zb.length ≤ 140737488351232 := hz3
    have hst : st.size ≤ 140737488355328 := by omega
    rw [HN1.out] at HI1 HD5 ⊢
    rw [HN2.out] at HI2 HD6 ⊢
    cases hrg : rgB st hl zb.length with
    | true =>
      have HRG := hide hrg
      have k5 := block_cell HD5.out
      clear hrg
      go_wp2_with fail
      refine (build14_yes st _ _ hl zb W (HTT.out W LW) (HI1.out W LW) (HBB.out W LW) hzz HRG.out).mono ?_
      rintro e w2 ⟨l2, v, rfl, hG⟩
      clear k5
      obtain ⟨ga, ca, e, _⟩ := hG.form
      have HA := hide hG.rd
      clear hG
      have hby : Mt.By (txM st hl zb) := fun z hz => by
        unfold txM hdL at hz
        simp only [List.mem_append, List.mem_flatMap] at hz
        rcases hz with ((hz | ⟨h, _, hz⟩) | hz) | hz
        · exact nmsB_by _ z hz
        · exact nmsB_by _ z hz
        · exact nmsB_by _ z hz
        · exact hy z hz
      have HBY := hide hby
      clear hby
      generalize hna : (txM st hl zb).length = na at e
      have HNA := hide hna
      clear hna
      subst e
      have E5 := hide (later_keep l2 HD5.out)
      have E6 := hide (later_keep l2 HD6.out)
      have L2 := LW.trans l2
      have k5 := block_cell E5.out
      go_wp2_with fail
      refine (ref_any st _ _ hl zb w2 (HI1.out w2 L2) (HBB.out w2 L2) hl100).mono ?_
      rintro e w3 ⟨l3, vh, rfl, hrow⟩
      obtain ⟨va, vc, rfl⟩ := owns_form hrow
      have HRR := hide (ownR_rd hrow)
      clear k5 hrow
      have L3 := L2.trans l3
      go_wp2_with fail
      refine (rbuild14_yes st _ _ hl zb w3 HRR.out (HBB.out w3 L3) hzz ⟨hst, hzo⟩ HRG.out).mono ?_
      rintro e w4 ⟨l4, v, rfl, hG⟩
      obtain ⟨gb, cb, e, _⟩ := hG.form
      have HB := hide hG.rd
      clear hG
      rw [HNA.out] at e
      subst e
      have L4 := L3.trans l4
      have K4 := l2.trans (l3.trans l4)
      have HA4 := hide (HA.out.later (l3.trans l4))
      have F5 := hide (later_keep (l3.trans l4) E5.out)
      have F6 := hide (later_keep (l3.trans l4) E6.out)
      clear HA E5 E6
      have er : (.int .i64 0 : Value) = .int .i64 0 := rfl
      go_upto_region 4 with fail
      refine anyR_begin (R := Later) Later.pre Later.drew 33 rfl (by kernel_rfl) (fun V0 hV0 => ?_)
      have LV : Later w V0 := L4.trans hV0
      have k5 : ∀ u, Later V0 u → ∀ j, u.cell? ⟨g5, j, none⟩ = (#[.string st, .slice sa hl.length scp, .slice ba zb.length bcp] : Array Value)[j]? := (fun u hu => block_cell (later_keep (hV0.trans hu) F5.out))
      have k6 : ∀ u, Later V0 u → ∀ j, u.cell? ⟨g6, j, none⟩ = (#[.string st2, .slice sa2 hm.length sc2, .slice ba2 zb2.length bc2] : Array Value)[j]? := (fun u hu => block_cell (later_keep (hV0.trans hu) F6.out))
      have c1 : ∀ u, Later V0 u → (convert 22 9 (.slice (some ⟨ga, 0, none⟩) na ca)).run Tryd.prog u = .ok (.string (strOfNums (txM st hl zb))) u := (fun u hu => conv_rd 22 9 5 Tryd.underlying22 Tryd.underlying5 Tryd.underlying9 (HA4.out.later (hV0.trans hu)))
      have c2 : ∀ u, Later V0 u → (convert 22 9 (.slice (some ⟨gb, 0, none⟩) na cb)).run Tryd.prog u = .ok (.string (strOfNums (txM st hl zb))) u := (fun u hu => conv_rd 22 9 5 Tryd.underlying22 Tryd.underlying5 Tryd.underlying9 (HB.out.later (hV0.trans hu)))
      generalize strOfNums (txM st hl zb) = tx at c1 c2
      refine anyR_take Later.pre 0 (.bool true) rfl (by kernel_rfl) (by kernel_rfl) (by kernel_rfl) (fun _ _ _ h => h) rfl (fun u hu => goes_call 10 #[] (by go_simp) (HL.out u (LV.trans hu))) ?_
      simp only [Act.put, List.setIfInBounds_toArray, List.set_cons_zero, List.set_cons_succ]
      refine anyR_val Later.pre 1 rfl (by kernel_rfl) (by kernel_rfl) (by kernel_rfl) (fun _ _ _ _ h => h) rfl ?_; apply Exists.intro; refine ⟨fun v1 hv1 => ?_, ?_⟩; (· (go_simp; rfl)); simp only [Act.put, List.setIfInBounds_toArray, List.set_cons_zero, List.set_cons_succ]
      refine anyR_valG Later.pre 2 rfl (by kernel_rfl) (by kernel_rfl) (by kernel_rfl) (fun _ _ _ _ h => h) (by rfl) ?_; apply Exists.intro; refine ⟨fun v1 hv1 => ?_, ?_⟩; (· (go_simp; rfl)); simp only [Act.put, List.setIfInBounds_toArray, List.set_cons_zero, List.set_cons_succ]
      refine anyR_valG Later.pre 3 rfl (by kernel_rfl) (by kernel_rfl) (by kernel_rfl) (fun _ _ _ _ h => h) (by rfl) ?_; apply Exists.intro; refine ⟨fun v1 hv1 => ?_, ?_⟩; (· (go_simp; rfl)); simp only [Act.put, List.setIfInBounds_toArray, List.set_cons_zero, List.set_cons_succ]
      refine anyR_valG Later.pre 4 rfl (by kernel_rfl) (by kernel_rfl) (by kernel_rfl) (fun _ _ _ _ h => h) (by rfl) ?_; apply Exists.intro; refine ⟨fun v1 hv1 => ?_, ?_⟩; (· (go_simp; rfl)); simp only [Act.put, List.setIfInBounds_toArray, List.set_cons_zero, List.set_cons_succ]
      refine anyR_valG Later.pre 5 rfl (by kernel_rfl) (by kernel_rfl) (by kernel_rfl) (fun _ _ _ _ h => h) (by rfl) ?_; apply Exists.intro; refine ⟨fun v1 hv1 => ?_, ?_⟩; (· (go_simp; rfl)); simp only [Act.put, List.setIfInBounds_toArray, List.set_cons_zero, List.set_cons_succ]
      refine anyR_valG Later.pre 6 rfl (by kernel_rfl) (by kernel_rfl) (by kernel_rfl) (fun _ _ _ _ h => h) (by rfl) ?_; apply Exists.intro; refine ⟨fun v1 hv1 => ?_, ?_⟩; (· (go_simp; rfl)); simp only [Act.put, List.setIfInBounds_toArray, List.set_cons_zero, List.set_cons_succ]
      refine anyR_val Later.pre 7 rfl (by kernel_rfl) (by kernel_rfl) (by kernel_rfl) (fun _ _ _ _ h => h) rfl ?_; apply Exists.intro; refine ⟨fun v1 hv1 => ?_, ?_⟩; (· (go_simp; rfl)); simp only [Act.put, List.setIfInBounds_toArray, List.set_cons_zero, List.set_cons_succ]
      refine anyR_val Later.pre 8 rfl (by kernel_rfl) (by kernel_rfl) (by kernel_rfl) (fun _ _ _ _ h => h) rfl ?_; apply Exists.intro; refine ⟨fun v1 hv1 => ?_, ?_⟩; (· (go_simp; rfl)); simp only [Act.put, List.setIfInBounds_toArray, List.set_cons_zero, List.set_cons_succ]
      refine anyR_valG Later.pre 9 rfl (by kernel_rfl) (by kernel_rfl) (by kernel_rfl) (fun _ _ _ _ h => h) (by rfl) ?_; apply Exists.intro; refine ⟨fun v1 hv1 => ?_, ?_⟩; (· (go_simp; rfl)); simp only [Act.put, List.setIfInBounds_toArray, List.set_cons_zero, List.set_cons_succ]
      refine anyR_valG Later.pre 10 rfl (by kernel_rfl) (by kernel_rfl) (by kernel_rfl) (fun _ _ _ _ h => h) (by rfl) ?_; apply Exists.intro; refine ⟨fun v1 hv1 => ?_, ?_⟩; (· (go_simp; rfl)); simp only [Act.put, List.setIfInBounds_toArray, List.set_cons_zero, List.set_cons_succ]
      refine anyR_valG Later.pre 11 rfl (by kernel_rfl) (by kernel_rfl) (by kernel_rfl) (fun _ _ _ _ h => h) (by rfl) ?_; apply Exists.intro; refine ⟨fun v1 hv1 => ?_, ?_⟩; (· (go_simp; rfl)); simp only [Act.put, List.setIfInBounds_toArray, List.set_cons_zero, List.set_cons_succ]
      refine anyR_val Later.pre 12 rfl (by kernel_rfl) (by kernel_rfl) (by kernel_rfl) (fun _ _ _ _ h => h) rfl ?_; apply Exists.intro; refine ⟨fun v1 hv1 => ?_, ?_⟩; (· (go_simp; rfl)); simp only [Act.put, List.setIfInBounds_toArray, List.set_cons_zero, List.set_cons_succ]
      refine anyR_val Later.pre 13 rfl (by kernel_rfl) (by kernel_rfl) (by kernel_rfl) (fun _ _ _ _ h => h) rfl ?_; apply Exists.intro; refine ⟨fun v1 hv1 => ?_, ?_⟩; (· (go_simp; rfl)); simp only [Act.put, List.setIfInBounds_toArray, List.set_cons_zero, List.set_cons_succ]
      clear c1 c2
      refine anyR_valG Later.pre 14 rfl (by kernel_rfl) (by kernel_rfl) (by kernel_rfl) (fun _ _ _ _ h => h) (by rfl) ?_; apply Exists.intro; refine ⟨fun v1 hv1 => ?_, ?_⟩; (· (go_simp; rfl)); simp only [Act.put, List.setIfInBounds_toArray, List.set_cons_zero, List.set_cons_succ]
      refine anyR_valG Later.pre 16 rfl (by kernel_rfl) (by kernel_rfl) (by kernel_rfl) (fun _ _ _ _ h => h) (by rfl) ?_; apply Exists.intro; refine ⟨fun v1 hv1 => ?_, ?_⟩; (· (go_simp; rfl)); simp only [Act.put, List.setIfInBounds_toArray, List.set_cons_zero, List.set_cons_succ]
      refine anyR_takeG Later.pre 15 (.bool true) rfl (by kernel_rfl) (by kernel_rfl) (by kernel_rfl) (fun _ _ _ h => h) (by rfl) (fun u hu => goes_call 16 #[.agg #[.string st, .slice sa hl.length scp, .slice ba zb.length bcp]] (by go_simp) ((right14_any st hl _ _ zb u (HTT.out u (LV.trans hu)) (HI1.out u (LV.trans hu)) (HBB.out u (LV.trans hu)) hzz).mono fun e w h => (by rw [HRG.out] at h; exact h))) ?_
      simp only [Act.put, List.setIfInBounds_toArray, List.set_cons_zero, List.set_cons_succ]
      refine anyR_oneG 17 rfl (by kernel_rfl) (by rfl) (fun V1 hV1 => ?_)
      refine wp_enter 15 #[.agg #[.string st, .slice sa hl.length scp, .slice ba zb.length bcp]] (by go_simp) ((ref_any st _ _ hl zb V1 (HI1.out V1 (LV.trans hV1)) (HBB.out V1 (LV.trans hV1)) hl100).mono ?_)
      rintro e V2 ⟨m2, vh2, rfl, hrow2⟩
      obtain ⟨va2, vc2, rfl⟩ := owns_form hrow2
      refine ⟨m2, ?_⟩
      simp only [Act.put, List.setIfInBounds_toArray, List.set_cons_zero, List.set_cons_succ]
      have HA2 := hide (ownR_rd hrow2)
      clear hrow2
      have M2 : Hid (Later V0 V2) := hV1.trans m2
      have k5 : ∀ u, Later V2 u → ∀ j, u.cell? ⟨g5, j, none⟩ = (#[.string st, .slice sa hl.length scp, .slice ba zb.length bcp] : Array Value)[j]? := (fun u hu => block_cell (later_keep (hV0.trans (M2.out.trans hu)) F5.out))
      have k6 : ∀ u, Later V2 u → ∀ j, u.cell? ⟨g6, j, none⟩ = (#[.string st2, .slice sa2 hm.length sc2, .slice ba2 zb2.length bc2] : Array Value)[j]? := (fun u hu => block_cell (later_keep (hV0.trans (M2.out.trans hu)) F6.out))
      refine anyR_takeG Later.pre 18 (.bool true) rfl (by kernel_rfl) (by kernel_rfl) (by kernel_rfl) (fun _ _ _ h => h) (by rfl) (fun u hu => goes_call 17 #[.agg #[.string st, .slice va2 hl.length vc2, .slice ba zb.length bcp]] (by go_simp) ((rright14_any st hl _ _ zb u (HA2.out.later hu) (HBB.out u (LV.trans (M2.out.trans hu))) hzz ⟨hst, hzo⟩).mono fun e w h => (by rw [HRG.out] at h; exact h))) ?_
      simp only [Act.put, List.setIfInBounds_toArray, List.set_cons_zero, List.set_cons_succ]
      refine anyR_valG Later.pre 19 rfl (by kernel_rfl) (by kernel_rfl) (by kernel_rfl) (fun _ _ _ _ h => h) (by rfl) ?_; apply Exists.intro; refine ⟨fun v1 hv1 => ?_, ?_⟩; (· (go_simp; rfl)); simp only [Act.put, List.setIfInBounds_toArray, List.set_cons_zero, List.set_cons_succ]
      refine anyR_val Later.pre 20 rfl (by kernel_rfl) (by kernel_rfl) (by kernel_rfl) (fun _ _ _ _ h => h) rfl ?_; apply Exists.intro; refine ⟨fun v1 hv1 => ?_, ?_⟩; (· (go_simp; rfl)); simp only [Act.put, List.setIfInBounds_toArray, List.set_cons_zero, List.set_cons_succ]
      refine anyR_val Later.pre 21 rfl (by kernel_rfl) (by kernel_rfl) (by kernel_rfl) (fun _ _ _ _ h => h) rfl ?_; apply Exists.intro; refine ⟨fun v1 hv1 => ?_, ?_⟩; (· (go_simp; rfl)); simp only [Act.put, List.setIfInBounds_toArray, List.set_cons_zero, List.set_cons_succ]
      refine anyR_valG Later.pre 22 rfl (by kernel_rfl) (by kernel_rfl) (by kernel_rfl) (fun _ _ _ _ h => h) (by rfl) ?_; apply Exists.intro; refine ⟨fun v1 hv1 => ?_, ?_⟩; (· (go_simp; rfl)); simp only [Act.put, List.setIfInBounds_toArray, List.set_cons_zero, List.set_cons_succ]
      refine anyR_valG Later.pre 23 rfl (by kernel_rfl) (by kernel_rfl) (by kernel_rfl) (fun _ _ _ _ h => h) (by rfl) ?_; apply Exists.intro; refine ⟨fun v1 hv1 => ?_, ?_⟩; (· (go_simp; rfl)); simp only [Act.put, List.setIfInBounds_toArray, List.set_cons_zero, List.set_cons_succ]
      refine anyR_valG Later.pre 25 rfl (by kernel_rfl) (by kernel_rfl) (by kernel_rfl) (fun _ _ _ _ h => h) (by rfl) ?_; apply Exists.intro; refine ⟨fun v1 hv1 => ?_, ?_⟩; (· (go_simp; rfl)); simp only [Act.put, List.setIfInBounds_toArray, List.set_cons_zero, List.set_cons_succ]
      refine anyR_valG Later.pre 27 rfl (by kernel_rfl) (by kernel_rfl) (by kernel_rfl) (fun _ _ _ _ h => h) (by rfl) ?_; apply Exists.intro; refine ⟨fun v1 hv1 => ?_, ?_⟩; (· (go_simp; rfl)); simp only [Act.put, List.setIfInBounds_toArray, List.set_cons_zero, List.set_cons_succ]
      clear k5 k6
      refine anyR_takeG Later.pre 24 (.bool (smM st st2 hl hm zb zb2)) rfl (by kernel_rfl) (by kernel_rfl) (by kernel_rfl) (fun _ _ _ h => h) (by rfl) (fun u hu => goes_call 18 #[.agg #[.string st, .slice sa hl.length scp, .slice ba zb.length bcp], .agg #[.string st2, .slice sa2 hm.length sc2, .slice ba2 zb2.length bc2]] (by go_simp) (same14_any st st2 _ _ _ _ hl hm zb zb2 u (HI1.out u (LV.trans (M2.out.trans hu))) (HI2.out u (LV.trans (M2.out.trans hu))) (HBB.out u (LV.trans (M2.out.trans hu))) (HBC.out u (LV.trans (M2.out.trans hu))) hy hy2)) ?_
      simp only [Act.put, List.setIfInBounds_toArray, List.set_cons_zero, List.set_cons_succ]
      refine anyR_oneG 26 rfl (by kernel_rfl) (by rfl) (fun V3 hV3 => ?_)
      have M3 : Hid (Later V0 V3) := M2.out.trans hV3
      refine wp_enter 15 #[.agg #[.string st, .slice sa hl.length scp, .slice ba zb.length bcp]] (by go_simp) ((ref_any st _ _ hl zb V3 (HI1.out V3 (LV.trans M3.out)) (HBB.out V3 (LV.trans M3.out)) hl100).mono ?_)
      rintro e V4 ⟨m4, vh4, rfl, hrow4⟩
      obtain ⟨va4, vc4, rfl⟩ := owns_form hrow4
      refine ⟨m4, ?_⟩
      simp only [Act.put, List.setIfInBounds_toArray, List.set_cons_zero, List.set_cons_succ]
      have HA4b := hide (ownR_rd hrow4)
      clear hrow4
      have M4 : Hid (Later V0 V4) := M3.out.trans m4
      refine anyR_oneG 28 rfl (by kernel_rfl) (by rfl) (fun V5 hV5 => ?_)
      have M5 : Hid (Later V0 V5) := M4.out.trans hV5
      refine wp_enter 15 #[.agg #[.string st2, .slice sa2 hm.length sc2, .slice ba2 zb2.length bc2]] (by go_simp) ((ref_any st2 _ _ hm zb2 V5 (HI2.out V5 (LV.trans M5.out)) (HBC.out V5 (LV.trans M5.out)) hl2).mono ?_)
      rintro e V6 ⟨m6, vh6, rfl, hrow6⟩
      obtain ⟨va6, vc6, rfl⟩ := owns_form hrow6
      refine ⟨m6, ?_⟩
      simp only [Act.put, List.setIfInBounds_toArray, List.set_cons_zero, List.set_cons_succ]
      have HA6 := hide (ownR_rd hrow6)
      clear hrow6
      have M6 : Hid (Later V0 V6) := M5.out.trans m6
      refine anyR_takeG Later.pre 29 (.bool (smM st st2 hl hm zb zb2)) rfl (by kernel_rfl) (by kernel_rfl) (by kernel_rfl) (fun _ _ _ h => h) (by rfl) (fun u hu => goes_call 19 #[.agg #[.string st, .slice va4 hl.length vc4, .slice ba zb.length bcp], .agg #[.string st2, .slice va6 hm.length vc6, .slice ba2 zb2.length bc2]] (by go_simp) (rsame14_any st st2 _ _ _ _ hl hm zb zb2 u (HA4b.out.later (hV5.trans (Later.trans m6 hu))) (HA6.out.later hu) (HBB.out u (LV.trans (M6.out.trans hu))) (HBC.out u (LV.trans (M6.out.trans hu))) hy hy2)) ?_
      simp only [Act.put, List.setIfInBounds_toArray, List.set_cons_zero, List.set_cons_succ]
      generalize smM st st2 hl hm zb zb2 = sm at *
      refine anyR_valG Later.pre 30 rfl (by kernel_rfl) (by kernel_rfl) (by kernel_rfl) (fun _ _ _ _ h => h) (by rfl) ?_; apply Exists.intro; refine ⟨fun v1 hv1 => ?_, ?_⟩; (· (go_simp; rfl)); simp only [Act.put, List.setIfInBounds_toArray, List.set_cons_zero, List.set_cons_succ]
      refine anyR_val Later.pre 31 rfl (by kernel_rfl) (by kernel_rfl) (by kernel_rfl) (fun _ _ _ _ h => h) rfl ?_; apply Exists.intro; refine ⟨fun v1 hv1 => ?_, ?_⟩; (· (go_simp; rfl)); simp only [Act.put, List.setIfInBounds_toArray, List.set_cons_zero, List.set_cons_succ]
      refine anyR_val Later.pre 32 rfl (by kernel_rfl) (by kernel_rfl) (by kernel_rfl) (fun _ _ _ _ h => h) rfl ?_; apply Exists.intro; refine ⟨fun v1 hv1 => ?_, ?_⟩; (· (go_simp; rfl)); simp only [Act.put, List.setIfInBounds_toArray, List.set_cons_zero, List.set_cons_succ]
      refine anyR_done (by kernel_rfl) (fun V9 hV9 => ?_)
      have L9 : Later w V9 := LV.trans (M6.out.trans hV9)
      go_wp2_with fail
      go_ret
      exact ⟨rfl, L9⟩
    | false =>
      have HRG := hide hrg
      have k5 := block_cell HD5.out
      clear hrg
      go_wp2_with fail
      refine (build14_no st _ _ hl zb W (HTT.out W LW) (HI1.out W LW) (HBB.out W LW) hzz HRG.out).mono ?_
      rintro e w2 ⟨rfl, l2⟩
      clear k5
      have E5 := hide (later_keep l2 HD5.out)
      have E6 := hide (later_keep l2 HD6.out)
      have L2 := LW.trans l2
      have k5 := block_cell E5.out
      go_wp2_with fail
      refine (ref_any st _ _ hl zb w2 (HI1.out w2 L2) (HBB.out w2 L2) hl100).mono ?_
      rintro e w3 ⟨l3, vh, rfl, hrow⟩
      obtain ⟨va, vc, rfl⟩ := owns_form hrow
      have HRR := hide (ownR_rd hrow)
      clear k5 hrow
      have L3 := L2.trans l3
      go_wp2_with fail
      refine (rbuild14_no st _ _ hl zb w3 HRR.out (HBB.out w3 L3) hzz ⟨hst, hzo⟩ HRG.out).mono ?_
      rintro e w4 ⟨rfl, l4⟩
      have L4 := L3.trans l4
      have F5 := hide (later_keep (l3.trans l4) E5.out)
      have F6 := hide (later_keep (l3.trans l4) E6.out)
      have HA4 : Hid (Rd w4.heap.size w4 (.slice none 0 0) []) := .inl ⟨none, 0, rfl, rfl, by omega, fun _ => rfl⟩
      have HB : Hid (Rd w4.heap.size w4 (.slice none 0 0) []) := .inl ⟨none, 0, rfl, rfl, by omega, fun _ => rfl⟩
      have HBY : Hid (Mt.By ([] : List Int)) := fun z hz => by cases hz
      clear E5 E6
      go_upto_region 4 with fail
      refine anyR_begin (R := Later) Later.pre Later.drew 33 rfl (by kernel_rfl) (fun V0 hV0 => ?_)
      have LV : Later w V0 := L4.trans hV0
      have k5 : ∀ u, Later V0 u → ∀ j, u.cell? ⟨g5, j, none⟩ = (#[.string st, .slice sa hl.length scp, .slice ba zb.length bcp] : Array Value)[j]? := (fun u hu => block_cell (later_keep (hV0.trans hu) F5.out))
      have k6 : ∀ u, Later V0 u → ∀ j, u.cell? ⟨g6, j, none⟩ = (#[.string st2, .slice sa2 hm.length sc2, .slice ba2 zb2.length bc2] : Array Value)[j]? := (fun u hu => block_cell (later_keep (hV0.trans hu) F6.out))
      have c1 : ∀ u, Later V0 u → (convert 22 9 (.slice none 0 0)).run Tryd.prog u = .ok (.string (strOfNums ([] : List Int))) u := (fun u hu => conv_rd 22 9 5 Tryd.underlying22 Tryd.underlying5 Tryd.underlying9 (HA4.out.later (hV0.trans hu)))
      have c2 : ∀ u, Later V0 u → (convert 22 9 (.slice none 0 0)).run Tryd.prog u = .ok (.string (strOfNums ([] : List Int))) u := (fun u hu => conv_rd 22 9 5 Tryd.underlying22 Tryd.underlying5 Tryd.underlying9 (HB.out.later (hV0.trans hu)))
      generalize strOfNums ([] : List Int) = tx at c1 c2
      refine anyR_take Later.pre 0 (.bool true) rfl (by kernel_rfl) (by kernel_rfl) (by kernel_rfl) (fun _ _ _ h => h) rfl (fun u hu => goes_call 10 #[] (by go_simp) (HL.out u (LV.trans hu))) ?_
      simp only [Act.put, List.setIfInBounds_toArray, List.set_cons_zero, List.set_cons_succ]
      refine anyR_val Later.pre 1 rfl (by kernel_rfl) (by kernel_rfl) (by kernel_rfl) (fun _ _ _ _ h => h) rfl ?_; apply Exists.intro; refine ⟨fun v1 hv1 => ?_, ?_⟩; (· (go_simp; rfl)); simp only [Act.put, List.setIfInBounds_toArray, List.set_cons_zero, List.set_cons_succ]
      refine anyR_valG Later.pre 2 rfl (by kernel_rfl) (by kernel_rfl) (by kernel_rfl) (fun _ _ _ _ h => h) (by rfl) ?_; apply Exists.intro; refine ⟨fun v1 hv1 => ?_, ?_⟩; (· (go_simp; rfl)); simp only [Act.put, List.setIfInBounds_toArray, List.set_cons_zero, List.set_cons_succ]
      refine anyR_valG Later.pre 3 rfl (by kernel_rfl) (by kernel_rfl) (by kernel_rfl) (fun _ _ _ _ h => h) (by rfl) ?_; apply Exists.intro; refine ⟨fun v1 hv1 => ?_, ?_⟩; (· (go_simp; rfl)); simp only [Act.put, List.setIfInBounds_toArray, List.set_cons_zero, List.set_cons_succ]
      refine anyR_valG Later.pre 4 rfl (by kernel_rfl) (by kernel_rfl) (by kernel_rfl) (fun _ _ _ _ h => h) (by rfl) ?_; apply Exists.intro; refine ⟨fun v1 hv1 => ?_, ?_⟩; (· (go_simp; rfl)); simp only [Act.put, List.setIfInBounds_toArray, List.set_cons_zero, List.set_cons_succ]
      refine anyR_valG Later.pre 5 rfl (by kernel_rfl) (by kernel_rfl) (by kernel_rfl) (fun _ _ _ _ h => h) (by rfl) ?_; apply Exists.intro; refine ⟨fun v1 hv1 => ?_, ?_⟩; (· (go_simp; rfl)); simp only [Act.put, List.setIfInBounds_toArray, List.set_cons_zero, List.set_cons_succ]
      refine anyR_valG Later.pre 6 rfl (by kernel_rfl) (by kernel_rfl) (by kernel_rfl) (fun _ _ _ _ h => h) (by rfl) ?_; apply Exists.intro; refine ⟨fun v1 hv1 => ?_, ?_⟩; (· (go_simp; rfl)); simp only [Act.put, List.setIfInBounds_toArray, List.set_cons_zero, List.set_cons_succ]
      refine anyR_val Later.pre 7 rfl (by kernel_rfl) (by kernel_rfl) (by kernel_rfl) (fun _ _ _ _ h => h) rfl ?_; apply Exists.intro; refine ⟨fun v1 hv1 => ?_, ?_⟩; (· (go_simp; rfl)); simp only [Act.put, List.setIfInBounds_toArray, List.set_cons_zero, List.set_cons_succ]
      refine anyR_val Later.pre 8 rfl (by kernel_rfl) (by kernel_rfl) (by kernel_rfl) (fun _ _ _ _ h => h) rfl ?_; apply Exists.intro; refine ⟨fun v1 hv1 => ?_, ?_⟩; (· (go_simp; rfl)); simp only [Act.put, List.setIfInBounds_toArray, List.set_cons_zero, List.set_cons_succ]
      refine anyR_valG Later.pre 9 rfl (by kernel_rfl) (by kernel_rfl) (by kernel_rfl) (fun _ _ _ _ h => h) (by rfl) ?_; apply Exists.intro; refine ⟨fun v1 hv1 => ?_, ?_⟩; (· (go_simp; rfl)); simp only [Act.put, List.setIfInBounds_toArray, List.set_cons_zero, List.set_cons_succ]
      refine anyR_valG Later.pre 10 rfl (by kernel_rfl) (by kernel_rfl) (by kernel_rfl) (fun _ _ _ _ h => h) (by rfl) ?_; apply Exists.intro; refine ⟨fun v1 hv1 => ?_, ?_⟩; (· (go_simp; rfl)); simp only [Act.put, List.setIfInBounds_toArray, List.set_cons_zero, List.set_cons_succ]
      refine anyR_valG Later.pre 11 rfl (by kernel_rfl) (by kernel_rfl) (by kernel_rfl) (fun _ _ _ _ h => h) (by rfl) ?_; apply Exists.intro; refine ⟨fun v1 hv1 => ?_, ?_⟩; (· (go_simp; rfl)); simp only [Act.put, List.setIfInBounds_toArray, List.set_cons_zero, List.set_cons_succ]
      refine anyR_val Later.pre 12 rfl (by kernel_rfl) (by kernel_rfl) (by kernel_rfl) (fun _ _ _ _ h => h) rfl ?_; apply Exists.intro; refine ⟨fun v1 hv1 => ?_, ?_⟩; (· (go_simp; rfl)); simp only [Act.put, List.setIfInBounds_toArray, List.set_cons_zero, List.set_cons_succ]
      refine anyR_val Later.pre 13 rfl (by kernel_rfl) (by kernel_rfl) (by kernel_rfl) (fun _ _ _ _ h => h) rfl ?_; apply Exists.intro; refine ⟨fun v1 hv1 => ?_, ?_⟩; (· (go_simp; rfl)); simp only [Act.put, List.setIfInBounds_toArray, List.set_cons_zero, List.set_cons_succ]
      clear c1 c2
      refine anyR_valG Later.pre 14 rfl (by kernel_rfl) (by kernel_rfl) (by kernel_rfl) (fun _ _ _ _ h => h) (by rfl) ?_; apply Exists.intro; refine ⟨fun v1 hv1 => ?_, ?_⟩; (· (go_simp; rfl)); simp only [Act.put, List.setIfInBounds_toArray, List.set_cons_zero, List.set_cons_succ]
      refine anyR_valG Later.pre 16 rfl (by kernel_rfl) (by kernel_rfl) (by kernel_rfl) (fun _ _ _ _ h => h) (by rfl) ?_; apply Exists.intro; refine ⟨fun v1 hv1 => ?_, ?_⟩; (· (go_simp; rfl)); simp only [Act.put, List.setIfInBounds_toArray, List.set_cons_zero, List.set_cons_succ]
      refine anyR_takeG Later.pre 15 (.bool false) rfl (by kernel_rfl) (by kernel_rfl) (by kernel_rfl) (fun _ _ _ h => h) (by rfl) (fun u hu => goes_call 16 #[.agg #[.string st, .slice sa hl.length scp, .slice ba zb.length bcp]] (by go_simp) ((right14_any st hl _ _ zb u (HTT.out u (LV.trans hu)) (HI1.out u (LV.trans hu)) (HBB.out u (LV.trans hu)) hzz).mono fun e w h => (by rw [HRG.out] at h; exact h))) ?_
      simp only [Act.put, List.setIfInBounds_toArray, List.set_cons_zero, List.set_cons_succ]
      refine anyR_oneG 17 rfl (by kernel_rfl) (by rfl) (fun V1 hV1 => ?_)
      refine wp_enter 15 #[.agg #[.string st, .slice sa hl.length scp, .slice ba zb.length bcp]] (by go_simp) ((ref_any st _ _ hl zb V1 (HI1.out V1 (LV.trans hV1)) (HBB.out V1 (LV.trans hV1)) hl100).mono ?_)
      rintro e V2 ⟨m2, vh2, rfl, hrow2⟩
      obtain ⟨va2, vc2, rfl⟩ := owns_form hrow2
      refine ⟨m2, ?_⟩
      simp only [Act.put, List.setIfInBounds_toArray, List.set_cons_zero, List.set_cons_succ]
      have HA2 := hide (ownR_rd hrow2)
      clear hrow2
      have M2 : Hid (Later V0 V2) := hV1.trans m2
      have k5 : ∀ u, Later V2 u → ∀ j, u.cell? ⟨g5, j, none⟩ = (#[.string st, .slice sa hl.length scp, .slice ba zb.length bcp] : Array Value)[j]? := (fun u hu => block_cell (later_keep (hV0.trans (M2.out.trans hu)) F5.out))
      have k6 : ∀ u, Later V2 u → ∀ j, u.cell? ⟨g6, j, none⟩ = (#[.string st2, .slice sa2 hm.length sc2, .slice ba2 zb2.length bc2] : Array Value)[j]? := (fun u hu => block_cell (later_keep (hV0.trans (M2.out.trans hu)) F6.out))
      refine anyR_takeG Later.pre 18 (.bool false) rfl (by kernel_rfl) (by kernel_rfl) (by kernel_rfl) (fun _ _ _ h => h) (by rfl) (fun u hu => goes_call 17 #[.agg #[.string st, .slice va2 hl.length vc2, .slice ba zb.length bcp]] (by go_simp) ((rright14_any st hl _ _ zb u (HA2.out.later hu) (HBB.out u (LV.trans (M2.out.trans hu))) hzz ⟨hst, hzo⟩).mono fun e w h => (by rw [HRG.out] at h; exact h))) ?_
      simp only [Act.put, List.setIfInBounds_toArray, List.set_cons_zero, List.set_cons_succ]
      refine anyR_valG Later.pre 19 rfl (by kernel_rfl) (by kernel_rfl) (by kernel_rfl) (fun _ _ _ _ h => h) (by rfl) ?_; apply Exists.intro; refine ⟨fun v1 hv1 => ?_, ?_⟩; (· (go_simp; rfl)); simp only [Act.put, List.setIfInBounds_toArray, List.set_cons_zero, List.set_cons_succ]
      refine anyR_val Later.pre 20 rfl (by kernel_rfl) (by kernel_rfl) (by kernel_rfl) (fun _ _ _ _ h => h) rfl ?_; apply Exists.intro; refine ⟨fun v1 hv1 => ?_, ?_⟩; (· (go_simp; rfl)); simp only [Act.put, List.setIfInBounds_toArray, List.set_cons_zero, List.set_cons_succ]
      refine anyR_val Later.pre 21 rfl (by kernel_rfl) (by kernel_rfl) (by kernel_rfl) (fun _ _ _ _ h => h) rfl ?_; apply Exists.intro; refine ⟨fun v1 hv1 => ?_, ?_⟩; (· (go_simp; rfl)); simp only [Act.put, List.setIfInBounds_toArray, List.set_cons_zero, List.set_cons_succ]
      refine anyR_valG Later.pre 22 rfl (by kernel_rfl) (by kernel_rfl) (by kernel_rfl) (fun _ _ _ _ h => h) (by rfl) ?_; apply Exists.intro; refine ⟨fun v1 hv1 => ?_, ?_⟩; (· (go_simp; rfl)); simp only [Act.put, List.setIfInBounds_toArray, List.set_cons_zero, List.set_cons_succ]
      refine anyR_valG Later.pre 23 rfl (by kernel_rfl) (by kernel_rfl) (by kernel_rfl) (fun _ _ _ _ h => h) (by rfl) ?_; apply Exists.intro; refine ⟨fun v1 hv1 => ?_, ?_⟩; (· (go_simp; rfl)); simp only [Act.put, List.setIfInBounds_toArray, List.set_cons_zero, List.set_cons_succ]
      refine anyR_valG Later.pre 25 rfl (by kernel_rfl) (by kernel_rfl) (by kernel_rfl) (fun _ _ _ _ h => h) (by rfl) ?_; apply Exists.intro; refine ⟨fun v1 hv1 => ?_, ?_⟩; (· (go_simp; rfl)); simp only [Act.put, List.setIfInBounds_toArray, List.set_cons_zero, List.set_cons_succ]
      refine anyR_valG Later.pre 27 rfl (by kernel_rfl) (by kernel_rfl) (by kernel_rfl) (fun _ _ _ _ h => h) (by rfl) ?_; apply Exists.intro; refine ⟨fun v1 hv1 => ?_, ?_⟩; (· (go_simp; rfl)); simp only [Act.put, List.setIfInBounds_toArray, List.set_cons_zero, List.set_cons_succ]
      clear k5 k6
      refine anyR_takeG Later.pre 24 (.bool (smM st st2 hl hm zb zb2)) rfl (by kernel_rfl) (by kernel_rfl) (by kernel_rfl) (fun _ _ _ h => h) (by rfl) (fun u hu => goes_call 18 #[.agg #[.string st, .slice sa hl.length scp, .slice ba zb.length bcp], .agg #[.string st2, .slice sa2 hm.length sc2, .slice ba2 zb2.length bc2]] (by go_simp) (same14_any st st2 _ _ _ _ hl hm zb zb2 u (HI1.out u (LV.trans (M2.out.trans hu))) (HI2.out u (LV.trans (M2.out.trans hu))) (HBB.out u (LV.trans (M2.out.trans hu))) (HBC.out u (LV.trans (M2.out.trans hu))) hy hy2)) ?_
      simp only [Act.put, List.setIfInBounds_toArray, List.set_cons_zero, List.set_cons_succ]
      refine anyR_oneG 26 rfl (by kernel_rfl) (by rfl) (fun V3 hV3 => ?_)
      have M3 : Hid (Later V0 V3) := M2.out.trans hV3
      refine wp_enter 15 #[.agg #[.string st, .slice sa hl.length scp, .slice ba zb.length bcp]] (by go_simp) ((ref_any st _ _ hl zb V3 (HI1.out V3 (LV.trans M3.out)) (HBB.out V3 (LV.trans M3.out)) hl100).mono ?_)
      rintro e V4 ⟨m4, vh4, rfl, hrow4⟩
      obtain ⟨va4, vc4, rfl⟩ := owns_form hrow4
      refine ⟨m4, ?_⟩
      simp only [Act.put, List.setIfInBounds_toArray, List.set_cons_zero, List.set_cons_succ]
      have HA4b := hide (ownR_rd hrow4)
      clear hrow4
      have M4 : Hid (Later V0 V4) := M3.out.trans m4
      refine anyR_oneG 28 rfl (by kernel_rfl) (by rfl) (fun V5 hV5 => ?_)
      have M5 : Hid (Later V0 V5) := M4.out.trans hV5
      refine wp_enter 15 #[.agg #[.string st2, .slice sa2 hm.length sc2, .slice ba2 zb2.length bc2]] (by go_simp) ((ref_any st2 _ _ hm zb2 V5 (HI2.out V5 (LV.trans M5.out)) (HBC.out V5 (LV.trans M5.out)) hl2).mono ?_)
      rintro e V6 ⟨m6, vh6, rfl, hrow6⟩
      obtain ⟨va6, vc6, rfl⟩ := owns_form hrow6
      refine ⟨m6, ?_⟩
      simp only [Act.put, List.setIfInBounds_toArray, List.set_cons_zero, List.set_cons_succ]
      have HA6 := hide (ownR_rd hrow6)
      clear hrow6
      have M6 : Hid (Later V0 V6) := M5.out.trans m6
      refine anyR_takeG Later.pre 29 (.bool (smM st st2 hl hm zb zb2)) rfl (by kernel_rfl) (by kernel_rfl) (by kernel_rfl) (fun _ _ _ h => h) (by rfl) (fun u hu => goes_call 19 #[.agg #[.string st, .slice va4 hl.length vc4, .slice ba zb.length bcp], .agg #[.string st2, .slice va6 hm.length vc6, .slice ba2 zb2.length bc2]] (by go_simp) (rsame14_any st st2 _ _ _ _ hl hm zb zb2 u (HA4b.out.later (hV5.trans (Later.trans m6 hu))) (HA6.out.later hu) (HBB.out u (LV.trans (M6.out.trans hu))) (HBC.out u (LV.trans (M6.out.trans hu))) hy hy2)) ?_
      simp only [Act.put, List.setIfInBounds_toArray, List.set_cons_zero, List.set_cons_succ]
      generalize smM st st2 hl hm zb zb2 = sm at *
      refine anyR_valG Later.pre 30 rfl (by kernel_rfl) (by kernel_rfl) (by kernel_rfl) (fun _ _ _ _ h => h) (by rfl) ?_; apply Exists.intro; refine ⟨fun v1 hv1 => ?_, ?_⟩; (· (go_simp; rfl)); simp only [Act.put, List.setIfInBounds_toArray, List.set_cons_zero, List.set_cons_succ]
      refine anyR_val Later.pre 31 rfl (by kernel_rfl) (by kernel_rfl) (by kernel_rfl) (fun _ _ _ _ h => h) rfl ?_; apply Exists.intro; refine ⟨fun v1 hv1 => ?_, ?_⟩; (· (go_simp; rfl)); simp only [Act.put, List.setIfInBounds_toArray, List.set_cons_zero, List.set_cons_succ]
      refine anyR_val Later.pre 32 rfl (by kernel_rfl) (by kernel_rfl) (by kernel_rfl) (fun _ _ _ _ h => h) rfl ?_; apply Exists.intro; refine ⟨fun v1 hv1 => ?_, ?_⟩; (· (go_simp; rfl)); simp only [Act.put, List.setIfInBounds_toArray, List.set_cons_zero, List.set_cons_succ]
      refine anyR_done (by kernel_rfl) (fun V9 hV9 => ?_)
      have L9 : Later w V9 := LV.trans (M6.out.trans hV9)
      go_wp2_with fail
      go_ret
      exact ⟨rfl, L9⟩
end Go.Proofs.YtifdocjagnhncaaDoor
