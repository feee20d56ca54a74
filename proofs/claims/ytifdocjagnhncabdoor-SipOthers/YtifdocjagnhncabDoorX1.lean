/- Several texts in one. -/
import Derived.Test.YtifdocjagnhncabDoorX2
import Derived.Deep.Cut
import Derived.Test.YtifdocjagnhncabDoorRh
/- The document's texts: lower, digits. -/
namespace Go.Proofs.YtifdocjagnhncabDoor
open Go.RowKit Go.Shelf
set_option maxRecDepth 100000
set_option linter.unusedVariables false
set_option linter.unusedSimpArgs false

/-- A text's bytes with small letters. -/
def lowZ (s : ByteArray) : List Int := (nmsB s).map sml
theorem sml_rng {c : Int} (h : 0 ≤ c ∧ c ≤ 255) : 0 ≤ sml c ∧ sml c ≤ 255 := by unfold sml; split <;> omega
theorem lowZ_by (s : ByteArray) : Mt.By (lowZ s) := fun z hz => by
  simp only [lowZ, List.mem_map] at hz
  obtain ⟨c, hc, rfl⟩ := hz
  exact sml_rng (nmsB_by s c hc)
theorem lowZ_len (s : ByteArray) : (lowZ s).length = s.size := by unfold lowZ; rw [List.length_map, nmsB_len]
theorem swP_iff (s t : ByteArray) (h : s.size = t.size) : ∀ k pos, pos + k = s.size → (swP s t k pos = true ↔ ∀ j, pos ≤ j → j < s.size → sml (bAt s j) = sml (bAt t j))
  | 0, pos, hk => by
    constructor
    · intro _ j h1 h2; omega
    · intro _; rfl
  | k + 1, pos, hk => by
    have e : swP s t (k + 1) pos = if sml (bAt s pos) = sml (bAt t pos) then swP s t k (pos + 1) else false := rfl
    rw [e]
    split
    · rename_i hq
      rw [swP_iff s t h k (pos + 1) (by omega)]
      constructor
      · intro hh j h1 h2
        rcases Nat.eq_or_lt_of_le h1 with rfl | h1
        · exact hq
        · exact hh j h1 h2
      · intro hh j h1 h2; exact hh j (by omega) h2
    · rename_i hq
      constructor
      · intro hh; cases hh
      · intro hh; exact absurd (hh pos (Nat.le_refl _) (by omega)) hq
theorem lowZ_at (s : ByteArray) (j : Nat) (h : j < s.size) : (lowZ s)[j]? = some (sml (bAt s j)) := by
  unfold lowZ
  have h' : j < (nmsB s).length := by rw [nmsB_len]; exact h
  rw [List.getElem?_map, nmsB_at s j h, List.getElem?_eq_getElem h']
  rfl
theorem swV_low (s t : ByteArray) : swV s t = decide (lowZ s = lowZ t) := by
  rw [Bool.eq_iff_iff, decide_eq_true_eq]
  unfold swV
  rw [Bool.and_eq_true, decide_eq_true_eq]
  constructor
  · rintro ⟨h1, h2⟩
    rw [swP_iff s t h1 s.size 0 (by omega)] at h2
    apply List.ext_getElem?
    intro j
    by_cases hj : j < s.size
    · rw [lowZ_at s j hj, lowZ_at t j (by omega), h2 j (by omega) hj]
    · rw [List.getElem?_eq_none (by rw [lowZ_len]; omega), List.getElem?_eq_none (by rw [lowZ_len]; omega)]
  · intro h
    have h1 : s.size = t.size := by rw [← lowZ_len, ← lowZ_len, h]
    refine ⟨h1, (swP_iff s t h1 s.size 0 (by omega)).2 fun j _ hj => ?_⟩
    have := lowZ_at s j hj
    rw [h, lowZ_at t j (by omega)] at this
    exact (Option.some.inj this).symm
/-- Two words are the same, large or small, where their small forms are. -/
theorem low_eq (s t : ByteArray) : eqS (strOfNums (lowZ s)) (strOfNums (lowZ t)) = swV s t := by
  rw [swV_low, Bool.eq_iff_iff, eqS_iff, decide_eq_true_eq]
  constructor
  · intro h
    have := congrArg nmsB h
    rwa [nmsB_str _ (lowZ_by s), nmsB_str _ (lowZ_by t)] at this
  · intro h; rw [h]
theorem low_cl (s : ByteArray) : (ByteArray.toList (strOfNums (lowZ s)) == ByteArray.toList ⟨#[99, 111, 110, 116, 101, 110, 116, 45, 108, 101, 110, 103, 116, 104]⟩) = swV s clN := by
  rw [str_beq, ← low_eq]
  congr 1

set_option maxRecDepth 100000 in
set_option maxHeartbeats 8000000 in
theorem rlower_any (s : ByteArray) (w : World) (hs : s.size ≤ 140737488355328) :
    Calls Tryd.prog 25 #[.string s] w fun e w' => e = .returned (.string (strOfNums (lowZ s))) ∧ Later w w' := by
  obtain ⟨i0, hi0, hz0, hz1, hz2⟩ := info_partsS info_u8
  have hs' : (s.size : Int) ≤ 140737488355328 := by omega
  go_enter Tryd.func25, Tryd.ntmps25
  go_upto_region 3 with fail
  go_loopw [3, 4, 5] (fun bv iv cv wr => ∃ pos : Nat, pos ≤ s.size ∧ iv = .int .i64 (pos : Int) ∧ Below w.heap.size w wr ∧ Hid (wr.ownsRow w.heap.size 5 1 bv ((lowZ s).take pos).length (((lowZ s).take pos).map (Value.int .u8)))) (fun _ iv _ _ => s.size - (intOf iv).toNat)
  case atStart => exact ⟨0, by omega, rfl, Below.refl _ _, ⟨rfl, .inl ⟨rfl, rfl⟩⟩⟩
  case round =>
    obtain ⟨pos, hp, rfl, lr, HO⟩ := hrel
    by_cases hlt : pos < s.size
    · have hlt1 : (pos : Int) < s.size := by omega
      have hbg := bAt_get s pos hlt
      have HS : Hid ((lowZ s).take (pos + 1) = (lowZ s).take pos ++ [sml (bAt s pos)]) := by
        show _ = _
        have h' : pos < (lowZ s).length := by rw [lowZ_len]; exact hlt
        rw [List.take_succ_eq_append_getElem h']
        have := lowZ_at s pos hlt
        rw [List.getElem?_eq_getElem h'] at this
        rw [Option.some.inj this]
      have HML : Hid (((lowZ s).take pos).length = pos) := by show _ = _; rw [List.length_take, lowZ_len]; omega
      generalize (lowZ s).take pos = M at *
      rw [← hbg] at HS
      clear hbg
      have hcr : (0 : Int) ≤ ((s[pos]'hlt).toNat : Int) ∧ ((s[pos]'hlt).toNat : Int) ≤ 255 := by have := (s[pos]'hlt).toNat_lt; omega
      have hM1 : M.length ≤ 140737488355327 := by rw [HML.out]; omega
      go_upto_region 6 with fail
      generalize (((s[pos]'hlt).toNat : Nat) : Int) = c at *
      by_cases a1 : 65 ≤ c
      · by_cases a2 : c ≤ 90
        · have hsm : sml c = c + 32 := by unfold sml; rw [if_pos ⟨a1, a2⟩]
          rw [hsm] at HS
          clear hsm
          go_upto_region 8 with fail
          have hcr2 : 0 ≤ c + 32 ∧ c + 32 ≤ 255 := by omega
          generalize c + 32 = d at *
          clear a1 a2 hcr
          have la := later_allocR wr (.cells #[.int .u8 d] 5); have HO1 := hide (ownsS_later HO.out la); have hb1 : w.heap.size ≤ (wr.alloc (.cells #[.int .u8 d] 5)).heap.size := (lr.trans (la.mono lr.size)).size; have HRD : Hid (Rd (wr.alloc (.cells #[.int .u8 d] 5)).heap.size (wr.alloc (.cells #[.int .u8 d] 5)) (.slice (some ⟨wr.heap.size, 0, none⟩) 1 1) [d]) := rd_mark [d] 5 (0, 0) wr (by simp) (by simp); obtain ⟨v2, w2, hrun, hown2, hgb⟩ := run_app (wr.alloc (.cells #[.int .u8 d] 5)) 23 23 5 w.heap.size i0 Tryd.underlying23 hi0 hz0 hz1 hz2 _ M HO1.out (wr.alloc (.cells #[.int .u8 d] 5)).heap.size (.slice (some ⟨wr.heap.size, 0, none⟩) 1 1) [d] HRD.out (by simp; omega) hb1; obtain ⟨va2, vc2, rfl⟩ := owns_form hown2; obtain ⟨va1, vc1, rfl⟩ := owns_form HO1.out; have l2 : Below w.heap.size w w2 := grown_later hgb (lr.trans (la.mono lr.size)) hb1 (fun k hk => (HO1.out.lt k hk).1); have HRUN := hide hrun; have HO2 := hide hown2; clear hrun hown2 hgb; generalize hm2 : (M ++ [d]).length = m2 at HRUN HO2; have HM2 := hide hm2; clear hm2; go_wp2_with (at_builtin; refine wpList_appw rfl (.tmp 23) (.tmp 25) 23 rfl _ _ rfl rfl _ w2 HRUN.out ?_); go_roundw; exact ⟨pos + 1, by omega, by go_num, l2, by rw [HS.out, HM2.out]; exact HO2⟩; (simp [intOf]; omega)
        · have hsm : sml c = c := by unfold sml; rw [if_neg (by omega)]
          rw [hsm] at HS
          clear hsm
          go_upto_region 8 with fail
          clear a1 a2
          generalize c = d at *
          have la := later_allocR wr (.cells #[.int .u8 d] 5); have HO1 := hide (ownsS_later HO.out la); have hb1 : w.heap.size ≤ (wr.alloc (.cells #[.int .u8 d] 5)).heap.size := (lr.trans (la.mono lr.size)).size; have HRD : Hid (Rd (wr.alloc (.cells #[.int .u8 d] 5)).heap.size (wr.alloc (.cells #[.int .u8 d] 5)) (.slice (some ⟨wr.heap.size, 0, none⟩) 1 1) [d]) := rd_mark [d] 5 (0, 0) wr (by simp) (by simp); obtain ⟨v2, w2, hrun, hown2, hgb⟩ := run_app (wr.alloc (.cells #[.int .u8 d] 5)) 23 23 5 w.heap.size i0 Tryd.underlying23 hi0 hz0 hz1 hz2 _ M HO1.out (wr.alloc (.cells #[.int .u8 d] 5)).heap.size (.slice (some ⟨wr.heap.size, 0, none⟩) 1 1) [d] HRD.out (by simp; omega) hb1; obtain ⟨va2, vc2, rfl⟩ := owns_form hown2; obtain ⟨va1, vc1, rfl⟩ := owns_form HO1.out; have l2 : Below w.heap.size w w2 := grown_later hgb (lr.trans (la.mono lr.size)) hb1 (fun k hk => (HO1.out.lt k hk).1); have HRUN := hide hrun; have HO2 := hide hown2; clear hrun hown2 hgb; generalize hm2 : (M ++ [d]).length = m2 at HRUN HO2; have HM2 := hide hm2; clear hm2; go_wp2_with (at_builtin; refine wpList_appw rfl (.tmp 23) (.tmp 25) 23 rfl _ _ rfl rfl _ w2 HRUN.out ?_); go_roundw; exact ⟨pos + 1, by omega, by go_num, l2, by rw [HS.out, HM2.out]; exact HO2⟩; (simp [intOf]; omega)
      · have hsm : sml c = c := by unfold sml; rw [if_neg (by omega)]
        rw [hsm] at HS
        clear hsm
        go_upto_region 8 with fail
        clear a1
        generalize c = d at *
        have la := later_allocR wr (.cells #[.int .u8 d] 5); have HO1 := hide (ownsS_later HO.out la); have hb1 : w.heap.size ≤ (wr.alloc (.cells #[.int .u8 d] 5)).heap.size := (lr.trans (la.mono lr.size)).size; have HRD : Hid (Rd (wr.alloc (.cells #[.int .u8 d] 5)).heap.size (wr.alloc (.cells #[.int .u8 d] 5)) (.slice (some ⟨wr.heap.size, 0, none⟩) 1 1) [d]) := rd_mark [d] 5 (0, 0) wr (by simp) (by simp); obtain ⟨v2, w2, hrun, hown2, hgb⟩ := run_app (wr.alloc (.cells #[.int .u8 d] 5)) 23 23 5 w.heap.size i0 Tryd.underlying23 hi0 hz0 hz1 hz2 _ M HO1.out (wr.alloc (.cells #[.int .u8 d] 5)).heap.size (.slice (some ⟨wr.heap.size, 0, none⟩) 1 1) [d] HRD.out (by simp; omega) hb1; obtain ⟨va2, vc2, rfl⟩ := owns_form hown2; obtain ⟨va1, vc1, rfl⟩ := owns_form HO1.out; have l2 : Below w.heap.size w w2 := grown_later hgb (lr.trans (la.mono lr.size)) hb1 (fun k hk => (HO1.out.lt k hk).1); have HRUN := hide hrun; have HO2 := hide hown2; clear hrun hown2 hgb; generalize hm2 : (M ++ [d]).length = m2 at HRUN HO2; have HM2 := hide hm2; clear hm2; go_wp2_with (at_builtin; refine wpList_appw rfl (.tmp 23) (.tmp 25) 23 rfl _ _ rfl rfl _ w2 HRUN.out ?_); go_roundw; exact ⟨pos + 1, by omega, by go_num, l2, by rw [HS.out, HM2.out]; exact HO2⟩; (simp [intOf]; omega)
    · obtain rfl : pos = s.size := by omega
      have hnl : ¬ ((s.size : Nat) : Int) < s.size := by omega
      rw [show (lowZ s).take s.size = lowZ s from List.take_of_length_le (by rw [lowZ_len]; exact Nat.le_refl _)] at HO
      have hcv := conv_rd 23 9 5 Tryd.underlying23 Tryd.underlying5 Tryd.underlying9 (Ow.of_row HO.out).rd
      obtain ⟨va, vc, rfl⟩ := owns_form HO.out
      have HW : Hid (Later w wr) := lr
      clear HO lr
      generalize (lowZ s).length = nl at *
      generalize hrs : strOfNums (lowZ s) = rs at *
      have HRS := hide hrs
      clear hrs
      go_wp2_with fail
      go_ret
      exact ⟨by rw [HRS.out]; rfl, HW.out⟩

theorem decB_small {n : Nat} (h : n < 10) : decB n = strOfNums [48 + (n : Int)] := by
  have := dg_small h
  rw [← str_nmsB (decB n), show nmsB (decB n) = dg n from rfl, this]
theorem decB_big {n : Nat} (h : 10 ≤ n) : decB n = decB (n / 10) ++ strOfNums [48 + ((n % 10 : Nat) : Int)] := by
  have := dg_big h
  apply ba_ext
  have h1 : ∀ s t : ByteArray, nmsB s = nmsB t → s = t := fun s t h => by rw [← str_nmsB s, ← str_nmsB t, h]
  rw [h1 (decB n) (decB (n / 10) ++ strOfNums [48 + ((n % 10 : Nat) : Int)]) (by
    rw [nmsB_app, nmsB_str _ (fun z hz => by simp at hz; subst hz; omega)]
    exact this)]
theorem rd_one (W : World) (d : Int) : Rd (W.alloc (.cells #[.int .u8 d] 5)).heap.size (W.alloc (.cells #[.int .u8 d] 5)) (.slice (some ⟨W.heap.size, 0, none⟩) 1 1) [d] := rd_mark [d] 5 (0, 0) W (by simp) (by simp)
theorem wrI {x : Int} (h1 : -9223372036854775808 ≤ x) (h2 : x ≤ 9223372036854775807) : IntKind.i64.wrap x = x := by
  unfold IntKind.wrap
  simp [IntKind.signed, IntKind.bits]
  omega
theorem wrB {x : Int} (h1 : 0 ≤ x) (h2 : x ≤ 255) : IntKind.u8.wrap x = x := by
  unfold IntKind.wrap
  simp [IntKind.signed, IntKind.bits]
  omega
/-- A number as the document writes it. -/
def DigsAt (n : Nat) : Prop := ∀ w : World, Calls Tryd.prog 26 #[.int .i64 (n : Int)] w fun e w' => e = .returned (.string (decB n)) ∧ Later w w'

set_option maxRecDepth 100000 in
set_option maxHeartbeats 8000000 in
theorem rdigits_step (n : Nat) (hn : n ≤ 9223372036854775807) (hi : 10 ≤ n → DigsAt (n / 10)) : DigsAt n := by
  intro w
  have hn' : (n : Int) ≤ 9223372036854775807 := by omega
  by_cases h10 : n < 10
  · have h1 : (n : Int) < 10 := by omega
    have HV := hide (decB_small h10)
    go_enter Tryd.func26, Tryd.ntmps26
    have hcv := conv_rd 23 9 5 Tryd.underlying23 Tryd.underlying5 Tryd.underlying9 (rd_one w (48 + (n : Int)))
    generalize hrs : strOfNums [48 + (n : Int)] = rs at *
    go_wp2_with fail
    go_ret
    exact ⟨by rw [HV.out]; rfl, later_allocR _ _⟩
  · have h1 : ¬ (n : Int) < 10 := by omega
    have HV := hide (decB_big (n := n) (by omega))
    have HI := hide (hi (by omega))
    have hds : (decB (n / 10)).size ≤ 20 := decB_len _ (by omega)
    go_enter Tryd.func26, Tryd.ntmps26
    go_upto_region 3 with fail
    refine anyR_begin (R := Later) Later.pre Later.drew 11 rfl (by kernel_rfl) (fun V0 hV0 => ?_)
    refine anyR_val Later.pre 0 rfl (by kernel_rfl) (by kernel_rfl) (by kernel_rfl) (fun _ _ _ _ h => h) rfl ?_; apply Exists.intro; refine ⟨fun v1 hv1 => ?_, ?_⟩; (· (go_simp; rfl)); simp only [Act.put, List.setIfInBounds_toArray, List.set_cons_zero, List.set_cons_succ]
    refine anyR_val Later.pre 3 rfl (by kernel_rfl) (by kernel_rfl) (by kernel_rfl) (fun _ _ _ _ h => h) rfl ?_; apply Exists.intro; refine ⟨fun v1 hv1 => ?_, ?_⟩; (· (go_simp; rfl)); simp only [Act.put, List.setIfInBounds_toArray, List.set_cons_zero, List.set_cons_succ]
    refine anyR_val Later.pre 1 rfl (by kernel_rfl) (by kernel_rfl) (by kernel_rfl) (fun _ _ _ _ h => h) rfl ?_; apply Exists.intro; refine ⟨fun v1 hv1 => ?_, ?_⟩; (· (go_simp; rfl)); simp only [Act.put, List.setIfInBounds_toArray, List.set_cons_zero, List.set_cons_succ]
    refine anyR_val Later.pre 4 rfl (by kernel_rfl) (by kernel_rfl) (by kernel_rfl) (fun _ _ _ _ h => h) rfl ?_; apply Exists.intro; refine ⟨fun v1 hv1 => ?_, ?_⟩; (· (go_simp; rfl)); simp only [Act.put, List.setIfInBounds_toArray, List.set_cons_zero, List.set_cons_succ]
    have e1 : IntKind.i64.wrap ((n : Int) / 10) = ((n / 10 : Nat) : Int) := by
      have h : (n : Int) / 10 = ((n / 10 : Nat) : Int) := by omega
      rw [h]
      exact wrI (by omega) (by omega)
    have e2 : (n : Int).tmod 10 = ((n % 10 : Nat) : Int) := by rw [Int.tmod_eq_emod_of_nonneg (by omega)]; omega
    simp only [e1, e2]
    clear e1 e2
    have hm9 : n % 10 ≤ 9 := by omega
    generalize n % 10 = r at *
    generalize n / 10 = q at *
    have hm9' : (r : Int) ≤ 9 := by omega
    refine anyR_take Later.pre 2 (.string (decB q)) rfl (by kernel_rfl) (by kernel_rfl) (by kernel_rfl) (fun _ _ _ h => h) rfl (fun u hu => goes_call 26 #[.int .i64 (q : Int)] (by go_simp) (HI.out u)) ?_
    simp only [Act.put, List.setIfInBounds_toArray, List.set_cons_zero, List.set_cons_succ]
    refine anyR_val Later.pre 5 rfl (by kernel_rfl) (by kernel_rfl) (by kernel_rfl) (fun _ _ _ _ h => h) rfl ?_; apply Exists.intro; refine ⟨fun v1 hv1 => ?_, ?_⟩; (· (go_simp; rfl)); simp only [Act.put, List.setIfInBounds_toArray, List.set_cons_zero, List.set_cons_succ]
    refine anyR_val Later.pre 6 rfl (by kernel_rfl) (by kernel_rfl) (by kernel_rfl) (fun _ _ _ _ h => h) rfl ?_; apply Exists.intro; refine ⟨fun v1 hv1 => ?_, ?_⟩; (· (go_simp; rfl)); simp only [Act.put, List.setIfInBounds_toArray, List.set_cons_zero, List.set_cons_succ]
    simp only [wrI (x := 48 + (r : Int)) (by omega) (by omega), wrB (x := 48 + (r : Int)) (by omega) (by omega)]
    refine anyR_one 7 rfl (by kernel_rfl) rfl (fun V1 hV1 => ?_)
    unfold Oper.wp
    go_simp
    have l2 := later_allocR V1 (.cells #[.int .u8 (48 + (r : Int))] 5)
    have HR := hide (rd_one V1 (48 + (r : Int)))
    refine ⟨l2, ?_⟩
    change wpAnyR _ _ _ _ _ _ _ _ (V1.alloc (.cells #[.int .u8 (48 + (r : Int))] 5))
    generalize V1.alloc (.cells #[.int .u8 (48 + (r : Int))] 5) = V2 at *
    have qc : ∀ u, Later V2 u → (convert 23 9 (.slice (some ⟨V1.heap.size, 0, none⟩) 1 1)).run Tryd.prog u = .ok (.string (strOfNums [48 + (r : Int)])) u := fun u hu => conv_rd 23 9 5 Tryd.underlying23 Tryd.underlying5 Tryd.underlying9 (HR.out.later hu)
    have hss : (strOfNums [48 + (r : Int)]).size = 1 := strOfNums_size _
    have hss2 : (strOfNums [48 + (r : Int)]).size ≤ 1 := by omega
    clear hss
    generalize strOfNums [48 + (r : Int)] = rs at *
    generalize V1.heap.size = g1 at *
    generalize decB q = dq at *
    refine anyR_val Later.pre 8 rfl (by kernel_rfl) (by kernel_rfl) (by kernel_rfl) (fun _ _ _ _ h => h) rfl ?_; apply Exists.intro; refine ⟨fun v1 hv1 => ?_, ?_⟩; (· (go_simp; rfl)); simp only [Act.put, List.setIfInBounds_toArray, List.set_cons_zero, List.set_cons_succ]
    clear qc
    refine anyR_val Later.pre 9 rfl (by kernel_rfl) (by kernel_rfl) (by kernel_rfl) (fun _ _ _ _ h => h) rfl ⟨.string (dq ++ rs), fun v1 hv1 => (by go_simp; omega), ?_⟩; simp only [Act.put, List.setIfInBounds_toArray, List.set_cons_zero, List.set_cons_succ]
    refine anyR_val Later.pre 10 rfl (by kernel_rfl) (by kernel_rfl) (by kernel_rfl) (fun _ _ _ _ h => h) rfl ?_; apply Exists.intro; refine ⟨fun v1 hv1 => ?_, ?_⟩; (· (go_simp; rfl)); simp only [Act.put, List.setIfInBounds_toArray, List.set_cons_zero, List.set_cons_succ]
    refine anyR_done (by kernel_rfl) (fun V9 hV9 => ?_)
    have L9 : Later w V9 := hV0.trans (hV1.trans (l2.trans hV9))
    go_wp2_with fail
    go_ret
    exact ⟨by rw [HV.out]; rfl, L9⟩
theorem rdigits_any (n : Nat) (hn : n ≤ 9223372036854775807) : DigsAt n := by
  induction n using Nat.strongRecOn with
  | ind n ih => exact rdigits_step n hn (fun h => ih (n / 10) (by omega) (by omega))
end Go.Proofs.YtifdocjagnhncabDoor

/- The document's size and Right. -/
namespace Go.Proofs.YtifdocjagnhncabDoor
open Go.RowKit Go.Shelf
set_option maxRecDepth 100000
set_option linter.unusedVariables false
set_option linter.unusedSimpArgs false

/-- A size: more than 4096 or not, as the message's. -/
def SzQ (n : Nat) (e : Ending) : Prop := ∃ r : Int, e = .returned (.int .i64 r) ∧ decide (4096 < r) = decide (4096 < n)

set_option maxRecDepth 100000 in
set_option maxHeartbeats 8000000 in
theorem rsize_any (st : ByteArray) (hs : List Hr) (sv sb : Value) (zb : List Int) (w : World) (hI : RdM w.heap.size w sv hs) (hB : Rd w.heap.size w sb zb) (hz : szM st hs zb.length ≤ 9000000000000000000) :
    Calls Tryd.prog 23 #[.agg #[.string st, sv, sb]] w fun e w' => SzQ (szM st hs zb.length) e ∧ Later w w' := by
  obtain ⟨ah, ch, rfl, hl1, hm1⟩ := hI.slice
  obtain ⟨ab, cb, rfl, hl2, hm2⟩ := hB.slice
  have l0 : Later w (w.alloc (.cells #[.string st, .slice ah hs.length ch, .slice ab zb.length cb] 39)) := later_allocR _ _
  have C0 := hide (heap_alloc_new w (.cells #[.string st, .slice ah hs.length ch, .slice ab zb.length cb] 39))
  have HL := hsz_len hs
  have HZ : Hid (szM st hs zb.length = st.size + 2 + hsz hs + 2 + zb.length) := rfl
  have hz2 : st.size + 2 + hsz hs + 2 + zb.length ≤ 9000000000000000000 := hz
  generalize szM st hs zb.length = sz at *
  go_enter Tryd.func23, Tryd.ntmps23
  go_upto_region 1 with fail
  generalize w.alloc _ = w0 at *
  have HI := hide (hI.later l0)
  generalize w.heap.size = gm at *
  have k0 := block_cell C0.out
  go_upto_region 3 with fail
  clear k0
  go_loopw [3, 4] (fun nv iv wr => ∃ k : Nat, k ≤ hs.length ∧ iv = .int .i64 (k : Int) ∧ nv = .int .i64 ((st.size + 4 + zb.length + hsz (hs.take k) : Nat) : Int) ∧ Later w0 wr) (fun _ iv _ => hs.length - (intOf iv).toNat)
  case atStart => exact ⟨0, by omega, rfl, by simp [hsz], Later.refl _⟩
  case round =>
    obtain ⟨k, hk, rfl, rfl, lr⟩ := hrel
    have hle0 := hsz_take_le hs k
    have k1 := block_cell (later_keep lr C0.out)
    by_cases hlt : k < hs.length
    · have hlt' : (k : Int) < (hs.length : Int) := by omega
      by_cases h4 : st.size + 4 + zb.length + hsz (hs.take k) ≤ 4096
      · have h4' : ((st.size + 4 + zb.length + hsz (hs.take k) : Nat) : Int) ≤ 4096 := by omega
        obtain ⟨b, off, cp, e, _, _, hbn, hcs⟩ := (HI.out.below lr).cells (by omega)
        cases e
        have d0 := hcs k hlt 0 (by omega)
        have d1 := hcs k hlt 1 (by omega)
        have hsn : hs.take (k + 1) = hs.take k ++ [hs[k]] := by rw [← List.take_append_getElem hlt]
        have hsz1 : hsz (hs.take (k + 1)) = hsz (hs.take k) + (hs[k].1.size + 2 + hs[k].2.size + 2) := by rw [hsn, hsz_snoc]
        have hle := hsz_take_le hs (k + 1)
        clear hcs hsn
        generalize hs[k] = r at *
        obtain ⟨x, y⟩ := r
        simp only [hrc, List.getElem?_cons_zero, List.getElem?_cons_succ, Nat.add_zero] at d0 d1 hsz1
        have HS1 := hide hsz1
        rw [hsz1] at hle
        clear hsz1 h4 hle0
        generalize hn0 : st.size + 4 + zb.length + hsz (hs.take k) = n0 at *
        have HN0 := hide hn0
        have hxy : n0 + (x.size + y.size + 4) ≤ 9000000000000000000 := by omega
        clear hn0 hle
        go_upto_region 5 with fail
        clear k1
        refine anyR_begin (R := Later) Later.pre Later.drew 19 rfl (by kernel_rfl) (fun V0 hV0 => ?_)
        have k1 : ∀ v, Later V0 v → ∀ j, v.cell? ⟨gm, j, none⟩ = #[.string st, .slice (some ⟨b, off, none⟩) hs.length ch, .slice ab zb.length cb][j]? := fun v hv => block_cell (later_keep (lr.trans (hV0.trans hv)) C0.out)
        have q0 : ∀ v, Later V0 v → v.cell? ⟨b, off + k * 2, none⟩ = some (.string x) := fun v hv => (hV0.trans hv).cell d0
        have q1 : ∀ v, Later V0 v → v.cell? ⟨b, off + k * 2 + 1, none⟩ = some (.string y) := fun v hv => (hV0.trans hv).cell d1
        clear d0 d1
        refine anyR_val Later.pre 0 rfl (by kernel_rfl) (by kernel_rfl) (by kernel_rfl) (fun _ _ _ _ h => h) rfl ?_; apply Exists.intro; refine ⟨fun v1 hv1 => ?_, ?_⟩; (· (go_simp; rfl)); simp only [Act.put, List.setIfInBounds_toArray, List.set_cons_zero, List.set_cons_succ]
        refine anyR_val Later.pre 1 rfl (by kernel_rfl) (by kernel_rfl) (by kernel_rfl) (fun _ _ _ _ h => h) rfl ?_; apply Exists.intro; refine ⟨fun v1 hv1 => ?_, ?_⟩; (· (go_simp; rfl)); simp only [Act.put, List.setIfInBounds_toArray, List.set_cons_zero, List.set_cons_succ]
        refine anyR_val Later.pre 2 rfl (by kernel_rfl) (by kernel_rfl) (by kernel_rfl) (fun _ _ _ _ h => h) rfl ?_; apply Exists.intro; refine ⟨fun v1 hv1 => ?_, ?_⟩; (· (go_simp; rfl)); simp only [Act.put, List.setIfInBounds_toArray, List.set_cons_zero, List.set_cons_succ]
        refine anyR_val Later.pre 3 rfl (by kernel_rfl) (by kernel_rfl) (by kernel_rfl) (fun _ _ _ _ h => h) rfl ?_; apply Exists.intro; refine ⟨fun v1 hv1 => ?_, ?_⟩; (· (go_simp; rfl)); simp only [Act.put, List.setIfInBounds_toArray, List.set_cons_zero, List.set_cons_succ]
        refine anyR_val Later.pre 4 rfl (by kernel_rfl) (by kernel_rfl) (by kernel_rfl) (fun _ _ _ _ h => h) rfl ?_; apply Exists.intro; refine ⟨fun v1 hv1 => ?_, ?_⟩; (· (go_simp; rfl)); simp only [Act.put, List.setIfInBounds_toArray, List.set_cons_zero, List.set_cons_succ]
        refine anyR_val Later.pre 5 rfl (by kernel_rfl) (by kernel_rfl) (by kernel_rfl) (fun _ _ _ _ h => h) rfl ?_; apply Exists.intro; refine ⟨fun v1 hv1 => ?_, ?_⟩; (· (go_simp; rfl)); simp only [Act.put, List.setIfInBounds_toArray, List.set_cons_zero, List.set_cons_succ]
        refine anyR_val Later.pre 6 rfl (by kernel_rfl) (by kernel_rfl) (by kernel_rfl) (fun _ _ _ _ h => h) rfl ?_; apply Exists.intro; refine ⟨fun v1 hv1 => ?_, ?_⟩; (· (go_simp; rfl)); simp only [Act.put, List.setIfInBounds_toArray, List.set_cons_zero, List.set_cons_succ]
        refine anyR_val Later.pre 7 rfl (by kernel_rfl) (by kernel_rfl) (by kernel_rfl) (fun _ _ _ _ h => h) rfl ?_; apply Exists.intro; refine ⟨fun v1 hv1 => ?_, ?_⟩; (· (go_simp; rfl)); simp only [Act.put, List.setIfInBounds_toArray, List.set_cons_zero, List.set_cons_succ]
        refine anyR_val Later.pre 8 rfl (by kernel_rfl) (by kernel_rfl) (by kernel_rfl) (fun _ _ _ _ h => h) rfl ?_; apply Exists.intro; refine ⟨fun v1 hv1 => ?_, ?_⟩; (· (go_simp; rfl)); simp only [Act.put, List.setIfInBounds_toArray, List.set_cons_zero, List.set_cons_succ]
        refine anyR_val Later.pre 9 rfl (by kernel_rfl) (by kernel_rfl) (by kernel_rfl) (fun _ _ _ _ h => h) rfl ?_; apply Exists.intro; refine ⟨fun v1 hv1 => ?_, ?_⟩; (· (go_simp; rfl)); simp only [Act.put, List.setIfInBounds_toArray, List.set_cons_zero, List.set_cons_succ]
        refine anyR_val Later.pre 10 rfl (by kernel_rfl) (by kernel_rfl) (by kernel_rfl) (fun _ _ _ _ h => h) rfl ?_; apply Exists.intro; refine ⟨fun v1 hv1 => ?_, ?_⟩; (· (go_simp; rfl)); simp only [Act.put, List.setIfInBounds_toArray, List.set_cons_zero, List.set_cons_succ]
        refine anyR_val Later.pre 11 rfl (by kernel_rfl) (by kernel_rfl) (by kernel_rfl) (fun _ _ _ _ h => h) rfl ?_; apply Exists.intro; refine ⟨fun v1 hv1 => ?_, ?_⟩; (· (go_simp; rfl)); simp only [Act.put, List.setIfInBounds_toArray, List.set_cons_zero, List.set_cons_succ]
        refine anyR_val Later.pre 12 rfl (by kernel_rfl) (by kernel_rfl) (by kernel_rfl) (fun _ _ _ _ h => h) rfl ?_; apply Exists.intro; refine ⟨fun v1 hv1 => ?_, ?_⟩; (· (go_simp; rfl)); simp only [Act.put, List.setIfInBounds_toArray, List.set_cons_zero, List.set_cons_succ]
        refine anyR_val Later.pre 13 rfl (by kernel_rfl) (by kernel_rfl) (by kernel_rfl) (fun _ _ _ _ h => h) rfl ?_; apply Exists.intro; refine ⟨fun v1 hv1 => ?_, ?_⟩; (· (go_simp; rfl)); simp only [Act.put, List.setIfInBounds_toArray, List.set_cons_zero, List.set_cons_succ]
        refine anyR_val Later.pre 14 rfl (by kernel_rfl) (by kernel_rfl) (by kernel_rfl) (fun _ _ _ _ h => h) rfl ?_; apply Exists.intro; refine ⟨fun v1 hv1 => ?_, ?_⟩; (· (go_simp; rfl)); simp only [Act.put, List.setIfInBounds_toArray, List.set_cons_zero, List.set_cons_succ]
        refine anyR_val Later.pre 15 rfl (by kernel_rfl) (by kernel_rfl) (by kernel_rfl) (fun _ _ _ _ h => h) rfl ?_; apply Exists.intro; refine ⟨fun v1 hv1 => ?_, ?_⟩; (· (go_simp; rfl)); simp only [Act.put, List.setIfInBounds_toArray, List.set_cons_zero, List.set_cons_succ]
        refine anyR_val Later.pre 16 rfl (by kernel_rfl) (by kernel_rfl) (by kernel_rfl) (fun _ _ _ _ h => h) rfl ?_; apply Exists.intro; refine ⟨fun v1 hv1 => ?_, ?_⟩; (· (go_simp; rfl)); simp only [Act.put, List.setIfInBounds_toArray, List.set_cons_zero, List.set_cons_succ]
        refine anyR_val Later.pre 17 rfl (by kernel_rfl) (by kernel_rfl) (by kernel_rfl) (fun _ _ _ _ h => h) rfl ?_; apply Exists.intro; refine ⟨fun v1 hv1 => ?_, ?_⟩; (· (go_simp; rfl)); simp only [Act.put, List.setIfInBounds_toArray, List.set_cons_zero, List.set_cons_succ]
        refine anyR_val Later.pre 18 rfl (by kernel_rfl) (by kernel_rfl) (by kernel_rfl) (fun _ _ _ _ h => h) rfl ?_; apply Exists.intro; refine ⟨fun v1 hv1 => ?_, ?_⟩; (· (go_simp; rfl)); simp only [Act.put, List.setIfInBounds_toArray, List.set_cons_zero, List.set_cons_succ]
        clear k1 q0 q1
        refine anyR_done (by kernel_rfl) (fun V9 hV9 => ?_)
        have L9 : Later w0 V9 := lr.trans (hV0.trans hV9)
        have e1 := wrI (x := (x.size : Int) + (y.size : Int)) (by omega) (by omega)
        have e2 := wrI (x := (x.size : Int) + (y.size : Int) + 4) (by omega) (by omega)
        have e3 := wrI (x := (n0 : Int) + ((x.size : Int) + (y.size : Int) + 4)) (by omega) (by omega)
        simp only [e1, e2, e3]
        clear e1 e2 e3
        go_wp2_with fail
        go_roundw
        case rel => exact ⟨k + 1, by omega, by go_num, by rw [HS1.out]; congr 1; have := HN0.out; omega, L9⟩
        case measure => simp [intOf]; omega
      · have h4' : ¬ ((st.size + 4 + zb.length + hsz (hs.take k) : Nat) : Int) ≤ 4096 := by omega
        have HV : Hid (decide (4096 < ((st.size + 4 + zb.length + hsz (hs.take k) : Nat) : Int)) = decide (4096 < sz)) := by show _ = _; rw [decide_eq_true (by omega), decide_eq_true (by have := HZ.out; omega)]
        clear h4
        generalize st.size + 4 + zb.length + hsz (hs.take k) = n0 at *
        go_wp2_with fail
        go_ret
        exact ⟨⟨_, rfl, HV.out⟩, Later.trans l0 lr⟩
    · obtain rfl : k = hs.length := by omega
      have hnl : ¬ ((hs.length : Nat) : Int) < (hs.length : Int) := by omega
      rw [List.take_length]
      have HV : Hid (decide (4096 < ((st.size + 4 + zb.length + hsz hs : Nat) : Int)) = decide (4096 < sz)) := by show _ = _; rw [decide_eq_decide]; have := HZ.out; omega
      generalize st.size + 4 + zb.length + hsz hs = n0 at *
      go_wp2_with fail
      go_ret
      exact ⟨⟨_, rfl, HV.out⟩, Later.trans l0 lr⟩

/-- A value with a blank ahead or behind. -/
theorem vl_blank (v : ByteArray) (h : v.size ≠ 0) : (Lib.hasPrefix v.data.toList [32] = (bAt v 0 == 32)) ∧ (Lib.hasSuffix v.data.toList [32] = (bAt v (v.size - 1) == 32)) := by
  have hl : v.data.toList.length = v.size := (ba_len v).symm
  constructor
  · unfold Lib.hasPrefix bAt
    cases hv : v.data.toList with
    | nil => rw [hv] at hl; simp at hl; omega
    | cons a l =>
      have : v.get! 0 = a := by
        have h0 : 0 < v.data.size := by show 0 < v.size; omega
        simp only [ByteArray.get!]
        rw [getElem!_pos v.data 0 h0, ← Array.getElem_toList]
        simp [hv]
      rw [this, Bool.eq_iff_iff]
      simp only [List.isPrefixOf, Bool.and_true, beq_iff_eq]
      constructor
      · intro e; rw [← e]; rfl
      · intro e; apply UInt8.toNat_inj.1; have : (32 : UInt8).toNat = 32 := rfl; omega
  · unfold Lib.hasSuffix bAt
    have hne : v.data.toList ≠ [] := fun e => by rw [e] at hl; simp at hl; omega
    have hdl : v.data.toList = v.data.toList.dropLast ++ [v.data.toList.getLast hne] := (List.dropLast_concat_getLast hne).symm
    have hga : v.get! (v.size - 1) = v.data.toList.getLast hne := by
      have h0 : v.size - 1 < v.data.size := by show _ < v.size; omega
      simp only [ByteArray.get!]
      rw [getElem!_pos v.data (v.size - 1) h0, List.getLast_eq_getElem, ← Array.getElem_toList]
      congr 1
    rw [hga, Bool.eq_iff_iff, List.isSuffixOf_iff_suffix, beq_iff_eq]
    generalize v.data.toList.getLast hne = a at *
    constructor
    · rintro ⟨t, ht⟩
      rw [hdl] at ht
      have := (List.append_inj' ht rfl).2
      simp only [List.cons.injEq, and_true] at this
      rw [← this]; rfl
    · intro e
      have : a = 32 := by apply UInt8.toNat_inj.1; have : (32 : UInt8).toNat = 32 := rfl; omega
      exact ⟨v.data.toList.dropLast, by rw [hdl, this]; simp⟩
end Go.Proofs.YtifdocjagnhncabDoor

/- The document's Right. -/
namespace Go.Proofs.YtifdocjagnhncabDoor
open Go.RowKit Go.Shelf
set_option maxRecDepth 100000
set_option linter.unusedVariables false
set_option linter.unusedSimpArgs false

set_option maxRecDepth 100000 in
set_option maxHeartbeats 16000000 in
theorem rright14_any (st : ByteArray) (hs : List Hr) (sv sb : Value) (zb : List Int) (w : World) (hI : RdM w.heap.size w sv hs) (hB : Rd w.heap.size w sb zb) (hz : szM st hs zb.length ≤ 9000000000000000000) (hzs : st.size ≤ 140737488355328 ∧ ∀ h ∈ hs, h.1.size ≤ 140737488355328 ∧ h.2.size ≤ 140737488355328) :
    Calls Tryd.prog 10 #[.agg #[.string st, sv, sb]] w fun e w' => e = .returned (.bool (rgB st hs zb.length)) ∧ Later w w' := by
  obtain ⟨ah, ch, rfl, hl1, hm1⟩ := hI.slice
  obtain ⟨ab, cb, rfl, hl2, hm2⟩ := hB.slice
  have HR : Hid (rgB st hs zb.length = (allB lnC st && (!(st.size == 0) && ((decide (hs.length ≤ 64) && (hs.all (okh zb.length) && decide (hs.countP (fun h => swV h.1 clN) = 1))) && decide (szM st hs zb.length ≤ 4096))))) := rfl
  generalize rgB st hs zb.length = r at *
  have l0 : Later w (w.alloc (.cells #[.string st, .slice ah hs.length ch, .slice ab zb.length cb] 39)) := later_allocR _ _
  have C0 := hide (heap_alloc_new w (.cells #[.string st, .slice ah hs.length ch, .slice ab zb.length cb] 39))
  have hzz : hsz hs ≤ 9000000000000000000 := by unfold szM at hz; omega
  have HSZ := hide (fun W (l : Later w W) => rsize_any st hs _ _ zb W (hI.later l) (hB.later l) hz)
  generalize szM st hs zb.length = sz at *
  go_enter Tryd.func10, Tryd.ntmps10
  go_upto_region 1 with fail
  generalize w.alloc _ = w0 at *
  have HI := hide (hI.later l0)
  generalize w.heap.size = gm at *
  have k0 := block_cell C0.out
  by_cases hs0 : st.size = 0
  · have HE : Hid (r = false) := by show _ = _; rw [HR.out, hs0]; simp
    obtain rfl := str_empty st hs0
    go_wp2_with fail
    go_ret
    exact ⟨by rw [HE.out]; rfl, l0⟩
  have hne := str_ne hs0
  have HR2 : Hid (r = (allB lnC st && ((decide (hs.length ≤ 64) && (hs.all (okh zb.length) && decide (hs.countP (fun h => swV h.1 clN) = 1))) && decide (sz ≤ 4096)))) := by show _ = _; rw [HR.out, show (st.size == 0) = false from by simpa using hs0]; rfl
  clear HR hs0
  go_wp2_with fail
  refine (rplain_any st w0 (by omega)).mono ?_
  generalize allB lnC st = b1 at *
  rintro e w1 ⟨rfl, hw⟩
  rw [hw]
  clear hw w1
  cases b1 with
  | false =>
    go_wp2_with fail
    go_ret
    exact ⟨by rw [HR2.out]; rfl, l0⟩
  | true =>
    by_cases h64 : hs.length ≤ 64
    case neg =>
      have h1 : (64 : Int) < (hs.length : Int) := by omega
      have HE : Hid (r = false) := by show _ = _; rw [HR2.out]; simp [h64]
      go_wp2_with fail
      go_ret
      exact ⟨by rw [HE.out]; rfl, l0⟩
    have h1 : ¬ (64 : Int) < (hs.length : Int) := by omega
    go_wp2_with fail
    refine (HSZ.out w0 l0).mono ?_
    rintro e w2 ⟨⟨rr, rfl, hrr⟩, l2⟩
    clear k0
    by_cases hb : sz ≤ 4096
    case neg =>
      have h2 : 4096 < rr := by rw [decide_eq_true (by omega : 4096 < sz)] at hrr; exact of_decide_eq_true hrr
      have HE : Hid (r = false) := by show _ = _; rw [HR2.out]; simp [hb]
      clear hrr
      go_wp2_with fail
      go_ret
      exact ⟨by rw [HE.out]; rfl, Later.trans l0 l2⟩
    have h2 : ¬ 4096 < rr := by rw [decide_eq_false (by omega : ¬ 4096 < sz)] at hrr; exact of_decide_eq_false hrr
    have HR3 : Hid (r = (hs.all (okh zb.length) && decide (hs.countP (fun h => swV h.1 clN) = 1))) := by show _ = _; rw [HR2.out]; simp [h64, hb]
    have C2 := hide (later_keep l2 C0.out)
    have L2 : Later w w2 := Later.trans l0 l2
    have HI2 := hide (HI.out.later l2)
    clear HR2 hrr C0 HSZ
    go_upto_region 5 with fail
    clear h1 h2
    go_loopw [3, 4, 5, 6] (fun nv iv pv vv wr => ∃ k : Nat, k ≤ hs.length ∧ iv = .int .i64 (k : Int) ∧ nv = .int .i64 (((hs.take k).countP (fun h => swV h.1 clN) : Nat) : Int) ∧ Later w2 wr ∧ Hid ((hs.take k).all (okh zb.length) = true)) (fun _ iv _ _ _ => hs.length - (intOf iv).toNat)
    case atStart => exact ⟨0, by omega, rfl, rfl, Later.refl _, hide rfl⟩
    case round =>
      obtain ⟨k, hk, rfl, rfl, lr, hal⟩ := hrel
      have k1 := block_cell (later_keep lr C2.out)
      by_cases hlt : k < hs.length
      · have hlt' : (k : Int) < (hs.length : Int) := by omega
        obtain ⟨b, off, cp, e, _, _, hbn, hcs⟩ := (HI2.out.below lr).cells (by omega)
        cases e
        have d0 := hcs k hlt 0 (by omega)
        have d1 := hcs k hlt 1 (by omega)
        have hsn : hs.take (k + 1) = hs.take k ++ [hs[k]] := by rw [← List.take_append_getElem hlt]
        have hmem := List.getElem_mem hlt
        have hzm := hzs.2 _ hmem
        have HNO : Hid (okh zb.length hs[k] = false → r = false) := fun h => by
          rw [HR3.out]
          have : hs.all (okh zb.length) = false := by rw [List.all_eq_false]; exact ⟨hs[k], hmem, by simp [h]⟩
          rw [this]; rfl
        have HYE : Hid (okh zb.length hs[k] = true → (hs.take (k + 1)).all (okh zb.length) = true) := fun h => by rw [hsn, List.all_append, hal.out]; simp [h]
        have HCT : Hid ((hs.take (k + 1)).countP (fun h => swV h.1 clN) = (hs.take k).countP (fun h => swV h.1 clN) + (if swV hs[k].1 clN = true then 1 else 0)) := by show _ = _; rw [hsn, List.countP_append]; simp [List.countP_cons]
        have hcl : (hs.take k).countP (fun h => swV h.1 clN) ≤ k := by
          have := List.countP_le_length (p := fun h : Hr => swV h.1 clN) (l := hs.take k)
          rw [List.length_take] at this
          omega
        clear hcs hsn hmem
        generalize hs[k] = rr at *
        obtain ⟨x, y⟩ := rr
        simp only [hrc, List.getElem?_cons_zero, List.getElem?_cons_succ, Nat.add_zero] at d0 d1 hzm HCT
        have HOK : Hid (okh zb.length (x, y) = (allN nmC x && ((allB lnC y && (!Lib.hasPrefix y.data.toList [32] && !Lib.hasSuffix y.data.toList [32])) && (!swV x clN || eqS y (decB zb.length))))) := rfl
        rw [HOK.out] at HNO HYE
        clear HOK
        generalize (hs.take k).countP (fun h => swV h.1 clN) = c at *
        have la := later_allocR wr (.cells #[.string x, .string y] 62)
        have B1 := hide (heap_alloc_new wr (.cells #[.string x, .string y] 62))
        go_upto_region 8 with fail
        clear d0 d1 k1
        generalize wr.alloc _ = wq at *
        generalize wr.heap.size = gh at *
        have lq := lr.trans la
        have k1 := block_cell B1.out
        go_wp2_with fail
        refine (rname_any x wq (by omega)).mono ?_
        generalize allN nmC x = b1 at *
        rintro e w1 ⟨rfl, hw⟩
        rw [hw]
        clear hw w1
        cases b1 with
        | false =>
          have HVV := hide (HNO.out rfl)
          clear HNO HYE
          go_wp2_with fail
          go_ret
          exact ⟨by rw [HVV.out]; rfl, L2.trans lq⟩
        | true =>
          go_wp2_with fail
          refine (rplain_any y wq (by omega)).mono ?_
          generalize allB lnC y = b2 at *
          rintro e w1 ⟨rfl, hw⟩
          rw [hw]
          clear hw w1
          cases b2 with
          | false =>
            have HVV := hide (HNO.out rfl)
            clear HNO HYE
            go_wp2_with fail
            go_ret
            exact ⟨by rw [HVV.out]; rfl, L2.trans lq⟩
          | true =>
            by_cases hy0 : y.size = 0
            · have e1 : Lib.hasPrefix y.data.toList [32] = false := by rw [str_empty y hy0]; rfl
              have e2 : Lib.hasSuffix y.data.toList [32] = false := by rw [str_empty y hy0]; rfl
              rw [e1, e2] at HNO HYE
              clear e1 e2
              have hye : y.toList.isEmpty = true := by rw [str_empty y hy0, ByteArray.toList_eq]; rfl
              clear hy0
              go_upto_region 13 with fail
              clear k1
              have k1 := block_cell B1.out
              have HLC := hide (low_cl x)
              have HLW := hide (rlower_any x wq (by omega))
              generalize strOfNums (lowZ x) = lx at *
              generalize swV x clN = b3 at *
              have hlc : (lx.toList == [99, 111, 110, 116, 101, 110, 116, 45, 108, 101, 110, 103, 116, 104]) = b3 := by rw [← HLC.out, ByteArray.toList_eq ⟨#[99, 111, 110, 116, 101, 110, 116, 45, 108, 101, 110, 103, 116, 104]⟩]
              go_wp2_with fail
              refine HLW.out.mono ?_
              rintro e w3 ⟨rfl, l3⟩
              clear k1
              cases b3 with
              | false =>
                have HYY := hide (HYE.out rfl)
                clear HNO HYE
                go_wp2_with fail
                go_roundw
                case rel => exact ⟨k + 1, by omega, by go_num, by rw [HCT.out]; rfl, lq.trans l3, HYY⟩
                case measure => simp [intOf]; omega
              | true =>
                have hc1 : (c : Int) ≤ 64 := by omega
                go_upto_region 15 with fail
                clear hlc
                have B3 := hide (later_keep l3 B1.out)
                have C3 := hide (later_keep (lq.trans l3) C2.out)
                refine anyR_begin (R := Later) Later.pre Later.drew 7 rfl (by kernel_rfl) (fun V0 hV0 => ?_)
                have qH : ∀ v, Later V0 v → ∀ j, v.cell? ⟨gh, j, none⟩ = #[Value.string x, .string y][j]? := fun v hv => block_cell (later_keep (hV0.trans hv) B3.out)
                have qM : ∀ v, Later V0 v → ∀ j, v.cell? ⟨gm, j, none⟩ = #[Value.string st, .slice (some ⟨b, off, none⟩) hs.length ch, .slice ab zb.length cb][j]? := fun v hv => block_cell (later_keep (hV0.trans hv) C3.out)
                refine anyR_val Later.pre 0 rfl (by kernel_rfl) (by kernel_rfl) (by kernel_rfl) (fun _ _ _ _ h => h) rfl ?_; apply Exists.intro; refine ⟨fun v1 hv1 => ?_, ?_⟩; (· (go_simp; rfl)); simp only [Act.put, List.setIfInBounds_toArray, List.set_cons_zero, List.set_cons_succ]
                refine anyR_val Later.pre 1 rfl (by kernel_rfl) (by kernel_rfl) (by kernel_rfl) (fun _ _ _ _ h => h) rfl ?_; apply Exists.intro; refine ⟨fun v1 hv1 => ?_, ?_⟩; (· (go_simp; rfl)); simp only [Act.put, List.setIfInBounds_toArray, List.set_cons_zero, List.set_cons_succ]
                refine anyR_val Later.pre 2 rfl (by kernel_rfl) (by kernel_rfl) (by kernel_rfl) (fun _ _ _ _ h => h) rfl ?_; apply Exists.intro; refine ⟨fun v1 hv1 => ?_, ?_⟩; (· (go_simp; rfl)); simp only [Act.put, List.setIfInBounds_toArray, List.set_cons_zero, List.set_cons_succ]
                refine anyR_val Later.pre 3 rfl (by kernel_rfl) (by kernel_rfl) (by kernel_rfl) (fun _ _ _ _ h => h) rfl ?_; apply Exists.intro; refine ⟨fun v1 hv1 => ?_, ?_⟩; (· (go_simp; rfl)); simp only [Act.put, List.setIfInBounds_toArray, List.set_cons_zero, List.set_cons_succ]
                refine anyR_val Later.pre 4 rfl (by kernel_rfl) (by kernel_rfl) (by kernel_rfl) (fun _ _ _ _ h => h) rfl ?_; apply Exists.intro; refine ⟨fun v1 hv1 => ?_, ?_⟩; (· (go_simp; rfl)); simp only [Act.put, List.setIfInBounds_toArray, List.set_cons_zero, List.set_cons_succ]
                refine anyR_take Later.pre 5 (.string (decB zb.length)) rfl (by kernel_rfl) (by kernel_rfl) (by kernel_rfl) (fun _ _ _ h => h) rfl (fun v1 hv1 => goes_call 26 #[.int .i64 (zb.length : Int)] (by go_simp) (rdigits_any zb.length (by omega) v1)) ?_
                simp only [Act.put, List.setIfInBounds_toArray, List.set_cons_zero, List.set_cons_succ]
                refine anyR_val Later.pre 6 rfl (by kernel_rfl) (by kernel_rfl) (by kernel_rfl) (fun _ _ _ _ h => h) rfl ?_; apply Exists.intro; refine ⟨fun v1 hv1 => ?_, ?_⟩; (· (go_simp; rfl)); simp only [Act.put, List.setIfInBounds_toArray, List.set_cons_zero, List.set_cons_succ]
                clear qH qM
                refine anyR_done (by kernel_rfl) (fun V9 hV9 => ?_)
                have L9 := lq.trans (l3.trans (hV0.trans hV9))
                rw [str_beq y (decB zb.length)]
                generalize eqS y (decB zb.length) = b4 at *
                cases b4 with
                | false =>
                  have HVV := hide (HNO.out rfl)
                  clear HNO HYE
                  go_wp2_with fail
                  go_ret
                  exact ⟨by rw [HVV.out]; rfl, L2.trans L9⟩
                | true =>
                  have HYY := hide (HYE.out rfl)
                  clear HNO HYE
                  go_wp2_with fail
                  go_roundw
                  case rel => exact ⟨k + 1, by omega, by go_num, by rw [HCT.out]; go_num, L9, HYY⟩
                  case measure => simp [intOf]; omega
            · have hyn := str_ne hy0
              obtain ⟨e1, e2⟩ := vl_blank y hy0
              rw [e1, e2] at HNO HYE
              clear e1 e2
              have hp0 : 0 < y.size := by omega
              have hp0' : (0 : Int) < (y.size : Int) := by omega
              have hq0 : y.size - 1 < y.size := by omega
              have g1 := bAt_get y 0 hp0
              have g2 := bAt_get y (y.size - 1) hq0
              rw [← g1, ← g2] at HNO HYE
              clear g1 g2 hy0
              have hys : (y.size : Int) - 1 = ((y.size - 1 : Nat) : Int) := by omega
              have hys2 : ((y.size - 1 : Nat) : Int) < (y.size : Int) := by omega
              have hyb : (y.size : Int) ≤ 140737488355328 := by omega
              cases hb1 : (((y[0]'hp0).toNat : Nat) : Int) == 32 with
              | true =>
                rw [hb1] at HNO HYE
                have HVV := hide (HNO.out rfl)
                clear HNO HYE
                go_wp2_with fail
                go_ret
                exact ⟨by rw [HVV.out]; rfl, L2.trans lq⟩
              | false =>
                rw [hb1] at HNO HYE
                cases hb2 : (((y[y.size - 1]'hq0).toNat : Nat) : Int) == 32 with
                | true =>
                  rw [hb2] at HNO HYE
                  have HVV := hide (HNO.out rfl)
                  clear HNO HYE
                  go_wp2_with fail
                  go_ret
                  exact ⟨by rw [HVV.out]; rfl, L2.trans lq⟩
                | false =>
                  rw [hb2] at HNO HYE
                  go_upto_region 13 with fail
                  clear k1
                  have k1 := block_cell B1.out
                  have HLC := hide (low_cl x)
                  have HLW := hide (rlower_any x wq (by omega))
                  generalize strOfNums (lowZ x) = lx at *
                  generalize swV x clN = b3 at *
                  have hlc : (lx.toList == [99, 111, 110, 116, 101, 110, 116, 45, 108, 101, 110, 103, 116, 104]) = b3 := by rw [← HLC.out, ByteArray.toList_eq ⟨#[99, 111, 110, 116, 101, 110, 116, 45, 108, 101, 110, 103, 116, 104]⟩]
                  go_wp2_with fail
                  refine HLW.out.mono ?_
                  rintro e w3 ⟨rfl, l3⟩
                  clear k1
                  cases b3 with
                  | false =>
                    have HYY := hide (HYE.out rfl)
                    clear HNO HYE
                    go_wp2_with fail
                    go_roundw
                    case rel => exact ⟨k + 1, by omega, by go_num, by rw [HCT.out]; rfl, lq.trans l3, HYY⟩
                    case measure => simp [intOf]; omega
                  | true =>
                    have hc1 : (c : Int) ≤ 64 := by omega
                    go_upto_region 15 with fail
                    clear hlc
                    have B3 := hide (later_keep l3 B1.out)
                    have C3 := hide (later_keep (lq.trans l3) C2.out)
                    refine anyR_begin (R := Later) Later.pre Later.drew 7 rfl (by kernel_rfl) (fun V0 hV0 => ?_)
                    have qH : ∀ v, Later V0 v → ∀ j, v.cell? ⟨gh, j, none⟩ = #[Value.string x, .string y][j]? := fun v hv => block_cell (later_keep (hV0.trans hv) B3.out)
                    have qM : ∀ v, Later V0 v → ∀ j, v.cell? ⟨gm, j, none⟩ = #[Value.string st, .slice (some ⟨b, off, none⟩) hs.length ch, .slice ab zb.length cb][j]? := fun v hv => block_cell (later_keep (hV0.trans hv) C3.out)
                    refine anyR_val Later.pre 0 rfl (by kernel_rfl) (by kernel_rfl) (by kernel_rfl) (fun _ _ _ _ h => h) rfl ?_; apply Exists.intro; refine ⟨fun v1 hv1 => ?_, ?_⟩; (· (go_simp; rfl)); simp only [Act.put, List.setIfInBounds_toArray, List.set_cons_zero, List.set_cons_succ]
                    refine anyR_val Later.pre 1 rfl (by kernel_rfl) (by kernel_rfl) (by kernel_rfl) (fun _ _ _ _ h => h) rfl ?_; apply Exists.intro; refine ⟨fun v1 hv1 => ?_, ?_⟩; (· (go_simp; rfl)); simp only [Act.put, List.setIfInBounds_toArray, List.set_cons_zero, List.set_cons_succ]
                    refine anyR_val Later.pre 2 rfl (by kernel_rfl) (by kernel_rfl) (by kernel_rfl) (fun _ _ _ _ h => h) rfl ?_; apply Exists.intro; refine ⟨fun v1 hv1 => ?_, ?_⟩; (· (go_simp; rfl)); simp only [Act.put, List.setIfInBounds_toArray, List.set_cons_zero, List.set_cons_succ]
                    refine anyR_val Later.pre 3 rfl (by kernel_rfl) (by kernel_rfl) (by kernel_rfl) (fun _ _ _ _ h => h) rfl ?_; apply Exists.intro; refine ⟨fun v1 hv1 => ?_, ?_⟩; (· (go_simp; rfl)); simp only [Act.put, List.setIfInBounds_toArray, List.set_cons_zero, List.set_cons_succ]
                    refine anyR_val Later.pre 4 rfl (by kernel_rfl) (by kernel_rfl) (by kernel_rfl) (fun _ _ _ _ h => h) rfl ?_; apply Exists.intro; refine ⟨fun v1 hv1 => ?_, ?_⟩; (· (go_simp; rfl)); simp only [Act.put, List.setIfInBounds_toArray, List.set_cons_zero, List.set_cons_succ]
                    refine anyR_take Later.pre 5 (.string (decB zb.length)) rfl (by kernel_rfl) (by kernel_rfl) (by kernel_rfl) (fun _ _ _ h => h) rfl (fun v1 hv1 => goes_call 26 #[.int .i64 (zb.length : Int)] (by go_simp) (rdigits_any zb.length (by omega) v1)) ?_
                    simp only [Act.put, List.setIfInBounds_toArray, List.set_cons_zero, List.set_cons_succ]
                    refine anyR_val Later.pre 6 rfl (by kernel_rfl) (by kernel_rfl) (by kernel_rfl) (fun _ _ _ _ h => h) rfl ?_; apply Exists.intro; refine ⟨fun v1 hv1 => ?_, ?_⟩; (· (go_simp; rfl)); simp only [Act.put, List.setIfInBounds_toArray, List.set_cons_zero, List.set_cons_succ]
                    clear qH qM
                    refine anyR_done (by kernel_rfl) (fun V9 hV9 => ?_)
                    have L9 := lq.trans (l3.trans (hV0.trans hV9))
                    rw [str_beq y (decB zb.length)]
                    generalize eqS y (decB zb.length) = b4 at *
                    cases b4 with
                    | false =>
                      have HVV := hide (HNO.out rfl)
                      clear HNO HYE
                      go_wp2_with fail
                      go_ret
                      exact ⟨by rw [HVV.out]; rfl, L2.trans L9⟩
                    | true =>
                      have HYY := hide (HYE.out rfl)
                      clear HNO HYE
                      go_wp2_with fail
                      go_roundw
                      case rel => exact ⟨k + 1, by omega, by go_num, by rw [HCT.out]; go_num, L9, HYY⟩
                      case measure => simp [intOf]; omega
      · obtain rfl : k = hs.length := by omega
        have hnl : ¬ ((hs.length : Nat) : Int) < (hs.length : Int) := by omega
        rw [List.take_length] at hal ⊢
        generalize hs.countP (fun h => swV h.1 clN) = c at *
        have hq : ((c : Int) == 1) = decide (c = 1) := by by_cases h : c = 1 <;> simp [h]; omega
        have HVV : Hid (r = ((c : Int) == 1)) := by show _ = _; rw [HR3.out, hal.out, hq]; rfl
        clear hq HR3
        go_wp2_with fail
        go_ret
        exact ⟨by rw [HVV.out]; rfl, L2.trans lr⟩
end Go.Proofs.YtifdocjagnhncabDoor

/- The law's ref: a message as the document's. -/
namespace Go.Proofs.YtifdocjagnhncabDoor
open Go.RowKit Go.Shelf
set_option maxRecDepth 100000
set_option linter.unusedVariables false
set_option linter.unusedSimpArgs false

theorem info_hdrR : (Tryd.prog.info? 62).map (fun i => (i.zero, i.size, i.bytes)) = some (some (.agg #[.string ⟨#[]⟩, .string ⟨#[]⟩]), 2, 32) := by kernel_rfl
theorem ownR_rd {base : Nat} {W : World} {v : Value} {l : List Hr} {T : TypeId} (h : W.ownsRow base T 2 v l.length (hrs l)) : RdM W.heap.size W v l := by
  obtain ⟨h1, ⟨rfl, h0⟩ | ⟨g, cap, cur, rfl, hg, hh, hl, hm, hs, hc⟩⟩ := h
  · have : l = [] := List.eq_nil_of_length_eq_zero h0
    subst this
    exact .inl ⟨none, 0, rfl, rfl, by omega, fun _ => rfl⟩
  · by_cases hn : l = []
    · subst hn
      exact .inl ⟨_, cap, rfl, rfl, by simpa [maxLen] using hm, fun h => by cases h⟩
    · refine .inr ⟨g, 0, cap, rfl, hn, hl, by simpa [maxLen] using hm, (Array.getElem?_eq_some_iff.1 hh).1, fun j hj i hi => ?_⟩
      rw [Nat.zero_add, block_cell hh, ← hrs_at l j i hj hi, ← hc, List.getElem?_take_of_lt (by omega)]
      simp

set_option maxRecDepth 100000 in
set_option maxHeartbeats 8000000 in
theorem ref_any (st : ByteArray) (sv sb : Value) (hs : List Hr) (zb : List Int) (w : World) (hH : RdM w.heap.size w sv hs) (hB : Rd w.heap.size w sb zb) (hhl : hs.length ≤ 100) :
    Calls Tryd.prog 11 #[.agg #[.string st, sv, sb]] w fun e w' => Later w w' ∧ ∃ vh, e = .returned (.agg #[.string st, vh, sb]) ∧ w'.ownsRow w.heap.size 62 2 vh hs.length (hrs hs) := by
  obtain ⟨sa, scp, rfl, hsc1, hsc2⟩ := hH.slice
  obtain ⟨ba, bcp, rfl, hbc1, hbc2⟩ := hB.slice
  have hb4 : Later w (((w.alloc (.cells #[.string st, .slice sa hs.length scp, .slice ba zb.length bcp] 25)).alloc (.cells #[.string ⟨#[]⟩, .slice none 0 0, .slice none 0 0] 39)).alloc (.cells #[.string st, .slice none 0 0, .slice ba zb.length bcp] 39)) := (((Below.refl _ _).alloc (Nat.le_refl _) _).alloc (by simp) _).alloc (by simp <;> omega) _
  have c0 : ((w.alloc (.cells #[.string st, .slice sa hs.length scp, .slice ba zb.length bcp] 25)).alloc (.cells #[.string ⟨#[]⟩, .slice none 0 0, .slice none 0 0] 39)).heap[w.heap.size]? = some (.cells #[.string st, .slice sa hs.length scp, .slice ba zb.length bcp] 25 (0, 0)) := (Below.heap_alloc _ _ _ (by simp)).trans (heap_alloc_new w _)
  have c1 : ((w.alloc (.cells #[.string st, .slice sa hs.length scp, .slice ba zb.length bcp] 25)).alloc (.cells #[.string ⟨#[]⟩, .slice none 0 0, .slice none 0 0] 39)).heap[w.heap.size + 1]? = some (.cells #[.string ⟨#[]⟩, .slice none 0 0, .slice none 0 0] 39 (0, 0)) := by
    have := heap_alloc_new (w.alloc (.cells #[.string st, .slice sa hs.length scp, .slice ba zb.length bcp] 25)) (.cells #[.string ⟨#[]⟩, .slice none 0 0, .slice none 0 0] 39)
    rw [World.size_alloc] at this
    exact this
  have hs4 : ((w.alloc (.cells #[.string st, .slice sa hs.length scp, .slice ba zb.length bcp] 25)).alloc (.cells #[.string ⟨#[]⟩, .slice none 0 0, .slice none 0 0] 39)).heap.size = w.heap.size + 1 + 1 := by simp
  have hb3 : Later w ((w.alloc (.cells #[.string st, .slice sa hs.length scp, .slice ba zb.length bcp] 25)).alloc (.cells #[.string ⟨#[]⟩, .slice none 0 0, .slice none 0 0] 39)) := ((Below.refl _ _).alloc (Nat.le_refl _) _).alloc (by simp) _
  have C0 := hide c0
  have C1 := hide c1
  have HS4 := hide hs4
  clear c0 c1 hs4 hb4
  go_enter Tryd.func11, Tryd.ntmps11
  go_upto_region 1 with fail
  generalize (w.alloc (.cells #[.string st, .slice sa hs.length scp, .slice ba zb.length bcp] 25)).alloc (.cells #[.string ⟨#[]⟩, .slice none 0 0, .slice none 0 0] 39) = w4 at *
  generalize hgc : w.heap.size = gc at C0 C1 HS4 ⊢
  have k0 := block_cell C0.out
  have la := later_allocR w4 (.cells #[.string st, .slice none 0 0, .slice ba zb.length bcp] 39)
  have C2 := hide (heap_alloc_new w4 (.cells #[.string st, .slice none 0 0, .slice ba zb.length bcp] 39))
  go_upto_region 2 with fail
  clear k0
  have D0 := hide (later_keep la C0.out)
  have D1 := hide (later_keep la C1.out)
  have LW : Later w (w4.alloc (.cells #[.string st, .slice none 0 0, .slice ba zb.length bcp] 39)) := Later.trans hb3 la
  have hs5 : w4.heap.size = gc + 1 + 1 := HS4.out
  rw [hs5] at C2 ⊢
  change Code.wp _ _ _ _ (w4.alloc (.cells #[.string st, .slice none 0 0, .slice ba zb.length bcp] 39))
  generalize w4.alloc (.cells #[.string st, .slice none 0 0, .slice ba zb.length bcp] 39) = W at *
  have LWg : Below gc w W := hgc ▸ LW
  go_upto_region 3 with fail
  have HH := hide (hH.below (hgc ▸ LWg : Below w.heap.size w W))
  rw [hgc] at HH
  have hgcW : gc + 3 ≤ W.heap.size := by have := (Array.getElem?_eq_some_iff.1 C2.out).1; omega
  go_loopw [4] (fun iv wr => ∃ (k : Nat) (vh : Value), k ≤ hs.length ∧ iv = .int .i64 (k : Int) ∧ Below gc W wr ∧ Hid (wr.heap[gc]? = some (.cells #[.string st, .slice sa hs.length scp, .slice ba zb.length bcp] 25 (0, 0))) ∧ Hid (wr.heap[gc + 1]? = some (.cells #[.string ⟨#[]⟩, .slice none 0 0, .slice none 0 0] 39 (0, 0))) ∧ Hid (wr.heap[gc + 1 + 1]? = some (.cells #[.string st, vh, .slice ba zb.length bcp] 39 (0, 0))) ∧ Hid (wr.ownsRow gc 62 2 vh k (hrs (hs.take k)))) (fun iv _ => hs.length - (intOf iv).toNat)
  case atStart => exact ⟨0, .slice none 0 0, by omega, rfl, Below.refl _ _, D0, D1, C2, rfl, .inl ⟨rfl, rfl⟩⟩
  case round =>
    obtain ⟨k, vh, hk, rfl, hbr, E0, E1, EN, EH⟩ := hrel
    have hbs := hbr.size
    have k0 := block_cell E0.out
    obtain ⟨ha, hcp, rfl⟩ := owns_form EH.out
    by_cases hlt : k < hs.length
    · have hlt' : (k : Int) < (hs.length : Int) := by omega
      have hlt2 : (k : Int) < 200 := by omega
      obtain ⟨b, off, cp, e, _, _, hbn, hcs⟩ := ((HH.out).below hbr).cells (by omega)
      cases e
      have d0 := hcs k hlt 0 (by omega)
      have d1 := hcs k hlt 1 (by omega)
      have HTK : Hid (hs.take (k + 1) = hs.take k ++ [hs[k]]) := by show _ = _; rw [← List.take_append_getElem hlt]
      clear hcs
      generalize hs[k] = hr at *
      obtain ⟨n1, n2⟩ := hr
      simp only [hrc, List.getElem?_cons_zero, List.getElem?_cons_succ, Nat.add_zero] at d0 d1
      go_upto_region 5 with fail
      clear k0
      refine wp_calmS ?_
      refine anyU_begin (R1 := Later) (R2 := fun _ _ => True) (D := [16, 18]) 19 rfl (by kernel_rfl) ?_
      have ld : Later wr wr.drew := Later.drew wr
      generalize wr.drew = Wd at *
      have qM : ∀ v1, Later Wd v1 → ∀ j, v1.cell? ⟨gc, j, none⟩ = #[.string st, .slice (some ⟨b, off, none⟩) hs.length scp, .slice ba zb.length bcp][j]? := fun v1 hv => block_cell (later_keep (ld.trans hv) E0.out)
      have qN : ∀ v1, Later Wd v1 → ∀ j, v1.cell? ⟨gc + 1 + 1, j, none⟩ = #[.string st, .slice ha k hcp, .slice ba zb.length bcp][j]? := fun v1 hv => block_cell (later_keep (ld.trans hv) EN.out)
      have q0 : ∀ v, Later Wd v → v.cell? ⟨b, off + k * 2, none⟩ = some (.string n1) := fun v hv => (ld.trans hv).cell d0
      have q1 : ∀ v, Later Wd v → v.cell? ⟨b, off + k * 2 + 1, none⟩ = some (.string n2) := fun v hv => (ld.trans hv).cell d1
      clear d0 d1
      refine anyU_val Later.pre 0 [1, 16, 18] rfl (by rfl) (by rfl) (by kernel_rfl) (by kernel_rfl) (by kernel_rfl) (by kernel_rfl) (by kernel_rfl) (fun _ _ _ _ h => by cases h.1) (by rfl) ?_; apply Exists.intro; refine ⟨fun v1 hv1 => ?_, ?_⟩; (· (go_simp; rfl)); simp only [Act.put, List.setIfInBounds_toArray, List.set_cons_zero, List.set_cons_succ]
      refine anyU_val Later.pre 1 [16, 18] rfl (by rfl) (by rfl) (by kernel_rfl) (by kernel_rfl) (by kernel_rfl) (by kernel_rfl) (by kernel_rfl) (fun _ _ _ _ h => by cases h.1) (by rfl) ?_; apply Exists.intro; refine ⟨fun v1 hv1 => ?_, ?_⟩; (· (go_simp; rfl)); simp only [Act.put, List.setIfInBounds_toArray, List.set_cons_zero, List.set_cons_succ]
      refine anyU_val Later.pre 2 [3, 5, 6, 7, 14, 15, 16, 18] rfl (by rfl) (by rfl) (by kernel_rfl) (by kernel_rfl) (by kernel_rfl) (by kernel_rfl) (by kernel_rfl) (fun _ _ _ _ h => by cases h.1) (by rfl) ?_; apply Exists.intro; refine ⟨fun v1 hv1 => ?_, ?_⟩; (· (go_simp; rfl)); simp only [Act.put, List.setIfInBounds_toArray, List.set_cons_zero, List.set_cons_succ]
      refine anyU_val Later.pre 3 [5, 6, 7, 14, 15, 16, 18] rfl (by rfl) (by rfl) (by kernel_rfl) (by kernel_rfl) (by kernel_rfl) (by kernel_rfl) (by kernel_rfl) (fun _ _ _ _ h => by cases h.1) (by rfl) ?_; apply Exists.intro; refine ⟨fun v1 hv1 => ?_, ?_⟩; (· (go_simp; rfl)); simp only [Act.put, List.setIfInBounds_toArray, List.set_cons_zero, List.set_cons_succ]
      refine anyU_val Later.pre 4 [5, 6, 7, 14, 15, 16, 18] rfl (by rfl) (by rfl) (by kernel_rfl) (by kernel_rfl) (by kernel_rfl) (by kernel_rfl) (by kernel_rfl) (fun _ _ _ _ h => by cases h.1) (by rfl) ?_; apply Exists.intro; refine ⟨fun v1 hv1 => ?_, ?_⟩; (· (go_simp; rfl)); simp only [Act.put, List.setIfInBounds_toArray, List.set_cons_zero, List.set_cons_succ]
      refine anyU_val Later.pre 5 [6, 7, 14, 15, 16, 18] rfl (by rfl) (by rfl) (by kernel_rfl) (by kernel_rfl) (by kernel_rfl) (by kernel_rfl) (by kernel_rfl) (fun _ _ _ _ h => by cases h.1) (by rfl) ?_; apply Exists.intro; refine ⟨fun v1 hv1 => ?_, ?_⟩; (· (go_simp; rfl)); simp only [Act.put, List.setIfInBounds_toArray, List.set_cons_zero, List.set_cons_succ]
      refine anyU_val Later.pre 6 [7, 14, 15, 16, 18] rfl (by rfl) (by rfl) (by kernel_rfl) (by kernel_rfl) (by kernel_rfl) (by kernel_rfl) (by kernel_rfl) (fun _ _ _ _ h => by cases h.1) (by rfl) ?_; apply Exists.intro; refine ⟨fun v1 hv1 => ?_, ?_⟩; (· (go_simp; rfl)); simp only [Act.put, List.setIfInBounds_toArray, List.set_cons_zero, List.set_cons_succ]
      refine anyU_val Later.pre 7 [14, 15, 16, 18] rfl (by rfl) (by rfl) (by kernel_rfl) (by kernel_rfl) (by kernel_rfl) (by kernel_rfl) (by kernel_rfl) (fun _ _ _ _ h => by cases h.1) (by rfl) ?_; apply Exists.intro; refine ⟨fun v1 hv1 => ?_, ?_⟩; (· (go_simp; rfl)); simp only [Act.put, List.setIfInBounds_toArray, List.set_cons_zero, List.set_cons_succ]
      refine anyU_val Later.pre 8 [9, 11, 12, 13, 14, 15, 16, 18] rfl (by rfl) (by rfl) (by kernel_rfl) (by kernel_rfl) (by kernel_rfl) (by kernel_rfl) (by kernel_rfl) (fun _ _ _ _ h => by cases h.1) (by rfl) ?_; apply Exists.intro; refine ⟨fun v1 hv1 => ?_, ?_⟩; (· (go_simp; rfl)); simp only [Act.put, List.setIfInBounds_toArray, List.set_cons_zero, List.set_cons_succ]
      refine anyU_val Later.pre 9 [11, 12, 13, 14, 15, 16, 18] rfl (by rfl) (by rfl) (by kernel_rfl) (by kernel_rfl) (by kernel_rfl) (by kernel_rfl) (by kernel_rfl) (fun _ _ _ _ h => by cases h.1) (by rfl) ?_; apply Exists.intro; refine ⟨fun v1 hv1 => ?_, ?_⟩; (· (go_simp; rfl)); simp only [Act.put, List.setIfInBounds_toArray, List.set_cons_zero, List.set_cons_succ]
      refine anyU_val Later.pre 10 [11, 12, 13, 14, 15, 16, 18] rfl (by rfl) (by rfl) (by kernel_rfl) (by kernel_rfl) (by kernel_rfl) (by kernel_rfl) (by kernel_rfl) (fun _ _ _ _ h => by cases h.1) (by rfl) ?_; apply Exists.intro; refine ⟨fun v1 hv1 => ?_, ?_⟩; (· (go_simp; rfl)); simp only [Act.put, List.setIfInBounds_toArray, List.set_cons_zero, List.set_cons_succ]
      refine anyU_val Later.pre 11 [12, 13, 14, 15, 16, 18] rfl (by rfl) (by rfl) (by kernel_rfl) (by kernel_rfl) (by kernel_rfl) (by kernel_rfl) (by kernel_rfl) (fun _ _ _ _ h => by cases h.1) (by rfl) ?_; apply Exists.intro; refine ⟨fun v1 hv1 => ?_, ?_⟩; (· (go_simp; rfl)); simp only [Act.put, List.setIfInBounds_toArray, List.set_cons_zero, List.set_cons_succ]
      refine anyU_val Later.pre 12 [13, 14, 15, 16, 18] rfl (by rfl) (by rfl) (by kernel_rfl) (by kernel_rfl) (by kernel_rfl) (by kernel_rfl) (by kernel_rfl) (fun _ _ _ _ h => by cases h.1) (by rfl) ?_; apply Exists.intro; refine ⟨fun v1 hv1 => ?_, ?_⟩; (· (go_simp; rfl)); simp only [Act.put, List.setIfInBounds_toArray, List.set_cons_zero, List.set_cons_succ]
      refine anyU_val Later.pre 13 [14, 15, 16, 18] rfl (by rfl) (by rfl) (by kernel_rfl) (by kernel_rfl) (by kernel_rfl) (by kernel_rfl) (by kernel_rfl) (fun _ _ _ _ h => by cases h.1) (by rfl) ?_; apply Exists.intro; refine ⟨fun v1 hv1 => ?_, ?_⟩; (· (go_simp; rfl)); simp only [Act.put, List.setIfInBounds_toArray, List.set_cons_zero, List.set_cons_succ]
      refine anyU_val Later.pre 14 [15, 16, 18] rfl (by rfl) (by rfl) (by kernel_rfl) (by kernel_rfl) (by kernel_rfl) (by kernel_rfl) (by kernel_rfl) (fun _ _ _ _ h => by cases h.1) (by rfl) ?_; apply Exists.intro; refine ⟨fun v1 hv1 => ?_, ?_⟩; (· (go_simp; rfl)); simp only [Act.put, List.setIfInBounds_toArray, List.set_cons_zero, List.set_cons_succ]
      clear qM qN q0 q1
      refine anyU_one 15 rfl (by kernel_rfl) (by rfl) ?_
      have l2 := later_allocR Wd (.cells #[.string n1, .string n2] 62)
      have HNW := hide (heap_alloc_new Wd (.cells #[.string n1, .string n2] 62))
      unfold Oper.wp
      go_simp
      refine ⟨Rj_out (by rfl) l2, ?_⟩
      change wpAnyU _ _ _ _ _ _ _ _ _ _ (Wd.alloc (.cells #[.string n1, .string n2] 62))
      generalize Wd.alloc (.cells #[.string n1, .string n2] 62) = W5 at *
      generalize Wd.heap.size = gw at *
      have LL := ld.trans l2
      have EH5 := ownsS_ct EH.out (CTs.of LL)
      have EN5 := later_keep LL EN.out
      have E05 := later_keep LL E0.out
      have E15 := later_keep LL E1.out
      have hnk := block_cell HNW.out
      obtain ⟨i0, hi0, hz0, hz1, hz2⟩ := info_partsS info_hdrR
      have hgc5 : gc ≤ W5.heap.size := by have := LL.size; omega
      obtain ⟨v', W2, hrun, hrow, hg, _⟩ := run_append_own (P := Tryd.prog) W5 gc 37 37 62 i0 (.agg #[.string ⟨#[]⟩, .string ⟨#[]⟩]) 2 32 Tryd.underlying37 hi0 hz0 hz1 hz2 rfl (by decide) (.slice ha k hcp) k (hrs (hs.take k)) EH5 ⟨gw, 0, none⟩ 1 1 [.string n1, .string n2] rfl
        (fun j u hj => by
          rw [show (⟨gw, 0, none⟩ : Addr).add j = ⟨gw, 0 + j, none⟩ from by unfold Addr.add; split <;> simp_all]
          rw [Nat.zero_add, hnk j, ← hj]; simp)
        (by intro u hu; simp at hu; rcases hu with rfl | rfl <;> rfl) (by unfold maxLen; omega) (by omega) hgc5
      clear hnk
      refine anyU_one 16 rfl (by kernel_rfl) (by rfl) ?_
      refine wp_app (.tmp 22) (.tmp 36) 37 rfl _ _ rfl rfl v' W2 hrun ?_
      refine ⟨Rj_in (by rfl) trivial, ?_⟩
      simp only [Act.put, List.setIfInBounds_toArray, List.set_cons_zero, List.set_cons_succ]
      obtain ⟨a2, cp2, rfl⟩ := owns_form hrow
      have EN2 := keep_row EH5 hg EN5 (.inl fun cur f e => by cases e)
      have E02 := keep_row EH5 hg E05 (.inl fun cur f e => by cases e)
      have E12 := keep_row EH5 hg E15 (.inl fun cur f e => by cases e)
      refine anyU_one 17 rfl (by kernel_rfl) (by rfl) ?_
      refine wp_value (w' := W2) (.pointer (some ⟨gc + 1 + 1, 1, none⟩)) (by go_simp) ?_
      refine ⟨Rj_out (by rfl) (Later.refl _), ?_⟩
      simp only [Act.put, List.setIfInBounds_toArray, List.set_cons_zero, List.set_cons_succ]
      have k2 := block_cell EN2
      have f2 := block_frozen EN2
      refine anyU_one 18 rfl (by kernel_rfl) (by rfl) ?_
      unfold Oper.wp
      go_simp
      refine ⟨Rj_in (by rfl) trivial, ?_⟩
      clear k2 f2
      refine anyU_done (by kernel_rfl) ?_
      refine ⟨rfl, ?_⟩
      have EN8 := heap_set1 EN2 1 (.slice a2 (k + 1) cp2)
      have E08 := hsetS_ne (j := 1) (v := .slice a2 (k + 1) cp2) E02 (m := gc + 1 + 1) (by omega)
      have E18 := hsetS_ne (j := 1) (v := .slice a2 (k + 1) cp2) E12 (m := gc + 1 + 1) (by omega)
      have EH8 := own_set hrow EN2 (by decide) 1 (.slice a2 (k + 1) cp2)
      have B8 : Below gc wr (W2.setCell ⟨gc + 1 + 1, 1, none⟩ (.slice a2 (k + 1) cp2)) := ⟨hg.os.trans LL.os, hg.tape.trans LL.tape, hg.output.trans LL.output, by have := LL.size; have := hg.size; simp; omega, fun i hi => by
        cases hh : wr.heap[i]? with
        | none => have := Array.getElem?_eq_none_iff.1 hh; omega
        | some o => exact hsetS_ne (keep_row EH5 hg (later_keep LL hh) (.inr hi)) (by omega)⟩
      have EH9 : (W2.setCell ⟨gc + 1 + 1, 1, none⟩ (.slice a2 (k + 1) cp2)).ownsRow gc 62 2 (.slice a2 (k + 1) cp2) (k + 1) (hrs (hs.take (k + 1))) := by
        rw [HTK.out, hrs_snoc]
        exact EH8
      have HE8 := hide E08; have HF8 := hide E18; have HG8 := hide EN8; have HH9 := hide EH9; have HBL := hide (hbr.trans B8)
      clear E08 E18 EN8 EH9 EH8 B8 hrow E12 E02 EN2 hg hrun E15 E05 EN5 EH5
      generalize W2.setCell ⟨gc + 1 + 1, 1, none⟩ (.slice a2 (k + 1) cp2) = V8 at *
      go_wp2_with fail
      go_roundw
      case rel => exact ⟨k + 1, .slice a2 (k + 1) cp2, by omega, by go_num, HBL.out, HE8, HF8, HG8, HH9⟩
      case measure => simp [intOf]; omega
    · have hnl : ¬ (k : Int) < (hs.length : Int) := by omega
      have hkk : k = hs.length := by omega
      have HH9 : Hid (wr.ownsRow gc 62 2 (.slice ha k hcp) hs.length (hrs hs)) := by
        have := EH.out
        rw [hkk, List.take_length] at this
        rw [hkk]
        exact this
      clear hkk
      have k2 := block_cell EN.out
      have k4 := block_cell E1.out
      have f4 := block_frozen E1.out
      go_wp2_with fail
      generalize hV : (((wr.setCell ⟨gc + 1, 0, none⟩ _).setCell ⟨gc + 1, 1, none⟩ _).setCell ⟨gc + 1, 2, none⟩ _) = V8
      have hV9 : V8 = putRow wr (gc + 1) 0 [.string st, .slice ha k hcp, .slice ba zb.length bcp] := hV.symm
      have hb8 : But (fun b => b = gc + 1) wr V8 := by rw [hV9]; exact putRow_but (E := fun b => b = gc + 1) (n := gc + 1) rfl _ _ _ _ (But.refl _ _)
      have p8 := putRow_all [.string st, .slice ha k hcp, .slice ba zb.length bcp] E1.out rfl
      rw [← hV9] at p8
      clear hV hV9
      have P8 := block_cell p8
      have LWr : Below gc w wr := LWg.trans hbr
      have hw8 : Below gc w V8 := LWr.trans (hb8.below (by omega) (fun k h e => by omega))
      have hr8 := own_but (base' := gc) HH9.out hb8 E1.out (by decide) (Nat.le_refl _)
      exact bodyPost_ret (v := .agg #[.string st, .slice ha k hcp, .slice ba zb.length bcp]) (by simp [results, Tryd.results11, go_sem, P8]) rfl ⟨(by show Below w.heap.size w V8; rw [hgc]; exact hw8), _, rfl, hr8⟩
end Go.Proofs.YtifdocjagnhncabDoor

/- A guarded operation that is not wanted is passed over. -/
namespace Go.Proofs.YtifdocjagnhncabDoor
open Go.RowKit Go.Shelf
set_option maxRecDepth 100000
set_option linter.unusedVariables false
set_option linter.unusedSimpArgs false

section
variable {P : Program} {l : List Oper} {Q : Exit → Act → World → Prop} {fuel : Nat} {listed : Array Bool} {a : Act} {w : World} {R : World → World → Prop}
/-- Number i, whose guard does not hold, is passed over first. -/
theorem anyR_skipG (hp : Pre R) (i : Nat) {oi : Oper} (hi : nthOp l i = some oi)
    (hs : Region.noSelect l.toArray = true) (hf : Region.free .any l.toArray listed i = true) (hr : (Region.ready .any l.toArray listed).contains i = true)
    (hQ : ∀ v c a w, Q (.panic c) (a.put oi.dst v) w → Q (.panic c) a w) (hg : Region.wanted oi (yielded l.toArray a.tmps) = false)
    (h : wpAnyR P .any l.toArray Q R fuel (listed.setIfInBounds i true) (a.put oi.dst undef) w) : wpAnyR P .any l.toArray Q R (fuel + 1) listed a w := by
  have hi' : l.toArray[i]? = some oi := by rw [← hi, nthOp_eq]; simp
  exact wpAnyR_first hp.1 hp.2 hi' (Region.noSelect_spec hs) (hQ undef) fuel listed a w (Region.free_spec hi' hf) (by simpa using hr) (.inr ⟨hg, rfl⟩) h
end

end Go.Proofs.YtifdocjagnhncabDoor

/- A guarded operation that is the only one to come next. -/
namespace Go.Proofs.YtifdocjagnhncabDoor
open Go.RowKit Go.Shelf
set_option maxRecDepth 100000
set_option linter.unusedVariables false
set_option linter.unusedSimpArgs false

section
variable {P : Program} {l : List Oper} {Q : Exit → Act → World → Prop} {fuel : Nat} {listed : Array Bool} {a : Act} {w : World} {R : World → World → Prop}
theorem anyR_oneG (i : Nat) {oi : Oper} (hi : nthOp l i = some oi) (hr : Region.ready .any l.toArray listed = [i]) (hg : Region.wanted oi (yielded l.toArray a.tmps) = true)
    (h1 : ∀ w', R w w' → oi.wp P a w' (fun a' w'' => R w' w'' ∧ wpAnyR P .any l.toArray Q R fuel (listed.setIfInBounds i true) a' w'') Q) :
    wpAnyR P .any l.toArray Q R (fuel + 1) listed a w := by
  have hi' : l.toArray[i]? = some oi := by rw [← hi, nthOp_eq]; simp
  refine ⟨fun h0 => (by rw [hr] at h0; cases h0), fun k hk w' hw' => ?_⟩
  rw [hr] at hk
  unfold wpOp
  obtain rfl : k = i := by simpa using hk
  rw [hi']; simp only [hg, if_true]; exact .inl (h1 w' hw')
end

end Go.Proofs.YtifdocjagnhncabDoor

/- The law's rewrite; the walk of SipRight. -/
namespace Go.Proofs.YtifdocjagnhncabDoor
open Go.RowKit Go.Shelf
set_option maxRecDepth 100000
set_option linter.unusedVariables false
set_option linter.unusedSimpArgs false

/-- How long a message of few headers is. -/
theorem szM_few2 {st : ByteArray} {hs : List Hr} {n : Nat} (h1 : st.size ≤ 140737488351232) (h2 : ∀ o ∈ hs, o.1.size ≤ 140737488351232 ∧ o.2.size ≤ 140737488351232) (h3 : n ≤ 140737488351232) : szM st (hs.take 100) n ≤ 9000000000000000000 ∧ (hs.take 100).length ≤ 100 ∧ ∀ o ∈ hs.take 100, o.1.size ≤ 140737488355328 ∧ o.2.size ≤ 140737488355328 := by
  have hl : (hs.take 100).length ≤ 100 := by rw [List.length_take]; omega
  have h2' : ∀ o ∈ hs.take 100, o.1.size ≤ 140737488351232 ∧ o.2.size ≤ 140737488351232 := fun o ho => h2 o (List.mem_of_mem_take ho)
  generalize hs.take 100 = l at *
  have : ∀ m (l : List Hr), l.length ≤ m → (∀ o ∈ l, o.1.size ≤ 140737488351232 ∧ o.2.size ≤ 140737488351232) → hsz l ≤ m * 281474976702468 := by
    intro m
    induction m with
    | zero => intro l hl _; have : l = [] := List.eq_nil_of_length_eq_zero (by omega); subst this; simp [hsz]
    | succ m ih =>
      intro l hl h
      cases l with
      | nil => simp [hsz]
      | cons a l =>
        have h1 := ih l (by simpa using hl) (fun o ho => h o (by simp [ho]))
        have h2 := h a (by simp)
        unfold hsz at h1 ⊢
        simp only [List.map_cons, List.sum_cons]
        omega
  have h4 := this 100 l hl h2'
  unfold szM
  exact ⟨by omega, hl, fun o ho => by have := h2' o ho; omega⟩

set_option maxRecDepth 100000 in
set_option maxHeartbeats 4000000 in
theorem rewriteL_any (h t p q : Int) (ml : List (Int × Int)) (mv : Value) (st : ByteArray) (sv sb : Value) (hs : List Hr) (zb : List Int) (w : World) (hT : TabI w) (hM : TabM w) (hh : 0 ≤ h ∧ h ≤ 4294967295) (ht : 0 ≤ t ∧ t ≤ 4294967295) (hc : (cgOf h t p q ml).wf) (hI : RdP2 w.heap.size w mv ml) (hH : RdM w.heap.size w sv hs) (hB : Rd w.heap.size w sb zb) (hzl : zb.length ≤ 140737488355328) (hhl : hs.length ≤ 5000) (hz : szM st hs zb.length ≤ 9000000000000000000) :
    Calls Tryd.prog 8 #[.agg #[.string st, sv, sb], .agg #[.int .u32 h, .int .u32 t, .int .u16 p, .int .u16 q, mv]] w fun e w' => Later w w' ∧ ∃ vh vb, e = .returned (.agg #[.string st, vh, vb]) ∧ w'.ownsRow w.heap.size 34 2 vh (rwHs (cgOf h t p q ml) st hs zb).length (hrs (rwHs (cgOf h t p q ml) st hs zb)) ∧ Ow w.heap.size w' vb (rwZb (cgOf h t p q ml) st hs zb) := by
  obtain ⟨sa, scp, rfl, hsc1, hsc2⟩ := hH.slice
  obtain ⟨ba, bcp, rfl, hbc1, hbc2⟩ := hB.slice
  obtain ⟨ma, mc, rfl, hmc1, hmc2⟩ := hI.slice
  have hb4 : Later w (((w.alloc (.cells #[.string st, .slice sa hs.length scp, .slice ba zb.length bcp] 25)).alloc (.cells #[.int .u32 h, .int .u32 t, .int .u16 p, .int .u16 q, .slice ma ml.length mc] 30)).alloc (.cells #[.string ⟨#[]⟩, .slice none 0 0, .slice none 0 0] 25)) := (((Below.refl _ _).alloc (Nat.le_refl _) _).alloc (by simp) _).alloc (by simp <;> omega) _
  have C0 := hide (show (((w.alloc (.cells #[.string st, .slice sa hs.length scp, .slice ba zb.length bcp] 25)).alloc (.cells #[.int .u32 h, .int .u32 t, .int .u16 p, .int .u16 q, .slice ma ml.length mc] 30)).alloc (.cells #[.string ⟨#[]⟩, .slice none 0 0, .slice none 0 0] 25)).heap[w.heap.size]? = some (.cells #[.string st, .slice sa hs.length scp, .slice ba zb.length bcp] 25 (0, 0)) from (Below.heap_alloc _ _ _ (by simp <;> omega)).trans ((Below.heap_alloc _ _ _ (by simp)).trans (heap_alloc_new w _)))
  have C1 : Hid ((((w.alloc (.cells #[.string st, .slice sa hs.length scp, .slice ba zb.length bcp] 25)).alloc (.cells #[.int .u32 h, .int .u32 t, .int .u16 p, .int .u16 q, .slice ma ml.length mc] 30)).alloc (.cells #[.string ⟨#[]⟩, .slice none 0 0, .slice none 0 0] 25)).heap[w.heap.size + 1]? = some (.cells #[.int .u32 h, .int .u32 t, .int .u16 p, .int .u16 q, .slice ma ml.length mc] 30 (0, 0))) := by
    have := heap_alloc_new (w.alloc (.cells #[.string st, .slice sa hs.length scp, .slice ba zb.length bcp] 25)) (.cells #[.int .u32 h, .int .u32 t, .int .u16 p, .int .u16 q, .slice ma ml.length mc] 30)
    rw [World.size_alloc] at this
    exact (Below.heap_alloc _ _ _ (by simp)).trans this
  have C2 : Hid ((((w.alloc (.cells #[.string st, .slice sa hs.length scp, .slice ba zb.length bcp] 25)).alloc (.cells #[.int .u32 h, .int .u32 t, .int .u16 p, .int .u16 q, .slice ma ml.length mc] 30)).alloc (.cells #[.string ⟨#[]⟩, .slice none 0 0, .slice none 0 0] 25)).heap[w.heap.size + 1 + 1]? = some (.cells #[.string ⟨#[]⟩, .slice none 0 0, .slice none 0 0] 25 (0, 0))) := by
    have := heap_alloc_new ((w.alloc (.cells #[.string st, .slice sa hs.length scp, .slice ba zb.length bcp] 25)).alloc (.cells #[.int .u32 h, .int .u32 t, .int .u16 p, .int .u16 q, .slice ma ml.length mc] 30)) (.cells #[.string ⟨#[]⟩, .slice none 0 0, .slice none 0 0] 25)
    simp only [World.size_alloc] at this
    exact this
  have HRW := hide (fun W (l : Later w W) => rewrite14_any h t p q ml _ st _ _ hs zb W (hT.later l) (hM.later l) hh ht hc (hI.later l) (hH.later l) (hB.later l) hzl hhl hz)
  generalize rwHs (cgOf h t p q ml) st hs zb = rh at *
  generalize rwZb (cgOf h t p q ml) st hs zb = rz at *
  go_enter Tryd.func8, Tryd.ntmps8
  go_upto_region 1 with fail
  generalize ((w.alloc (.cells #[.string st, .slice sa hs.length scp, .slice ba zb.length bcp] 25)).alloc (.cells #[.int .u32 h, .int .u32 t, .int .u16 p, .int .u16 q, .slice ma ml.length mc] 30)).alloc (.cells #[.string ⟨#[]⟩, .slice none 0 0, .slice none 0 0] 25) = w4 at *
  generalize hgc : w.heap.size = gc at C0 C1 C2 ⊢
  have k0 := block_cell C0.out
  have k1 := block_cell C1.out
  go_wp2_with fail
  refine (HRW.out w4 hb4).mono ?_
  rintro e w5 ⟨l5, vh, vb, rfl, hr5, hO5⟩
  obtain ⟨va, vc, rfl⟩ := owns_form hr5
  obtain ⟨xa, xc, rfl, _, _⟩ := hO5.slice
  clear k0 k1
  have E2 := later_keep l5 C2.out
  have k2 := block_cell E2
  have f2 := block_frozen E2
  go_wp2_with fail
  generalize hV : (((w5.setCell ⟨gc + 1 + 1, 0, none⟩ _).setCell ⟨gc + 1 + 1, 1, none⟩ _).setCell ⟨gc + 1 + 1, 2, none⟩ _) = V8
  have hV9 : V8 = putRow w5 (gc + 1 + 1) 0 [.string st, .slice va rh.length vc, .slice xa rz.length xc] := hV.symm
  have hb8 : But (fun b => b = gc + 1 + 1) w5 V8 := by rw [hV9]; exact putRow_but (E := fun b => b = gc + 1 + 1) (n := gc + 1 + 1) rfl _ _ _ _ (But.refl _ _)
  have p8 := putRow_all [.string st, .slice va rh.length vc, .slice xa rz.length xc] E2 rfl
  rw [← hV9] at p8
  clear hV hV9
  have P8 := block_cell p8
  have L5 := Later.trans hb4 l5
  have hlt2 := (Array.getElem?_eq_some_iff.1 C2.out).1
  have hw8 : Later w V8 := Below.trans L5 (hb8.below (L5).size (fun k h e => by omega))
  have hr8 := own_but (base' := w.heap.size) hr5 hb8 E2 (by decide) hb4.size
  have hO8 : Ow w.heap.size V8 (.slice xa rz.length xc) rz := (hO5.but hb8 (fun b h e => by omega)).mono hb4.size
  exact bodyPost_ret (v := .agg #[.string st, .slice va rh.length vc, .slice xa rz.length xc]) (by simp [results, Tryd.results8, go_sem, P8]) rfl ⟨hw8, _, _, rfl, hr8, hO8⟩

theorem rwHs_names (c : Cg) (st : ByteArray) (hs : List Hr) (zb : List Int) : (rwHs c st hs zb).length = hs.length ∧ ∀ j (h1 : j < hs.length) (h2 : j < (rwHs c st hs zb).length), (rwHs c st hs zb)[j].1 = hs[j].1 := by
  unfold rwHs
  split
  · unfold mgH
    exact ⟨by simp, fun j h1 h2 => by simp⟩
  · exact ⟨rfl, fun j h1 h2 => rfl⟩
theorem rw_right (c : Cg) (st : ByteArray) (hs : List Hr) (zb : List Int) : rgB st (rwHs c st hs zb) (rwZb c st hs zb).length = rgB st hs zb.length := by
  unfold rwHs rwZb
  split
  · rename_i ok
    unfold rwOk at ok
    simp only [Bool.and_eq_true] at ok
    rw [nmsB_len, ok.1, ok.2]
  · rfl
theorem rw_sz (c : Cg) (hc : c.wf) (st : ByteArray) (hs : List Hr) (zb : List Int) (hz : szM st hs zb.length ≤ 9000000000000000000) (hb : ∀ o ∈ hs, o.1.size ≤ 140737488355328 ∧ o.2.size ≤ 140737488355328) :
    szM st (rwHs c st hs zb) (rwZb c st hs zb).length ≤ 9000000000000000000 ∧ ∀ o ∈ rwHs c st hs zb, o.1.size ≤ 140737488355328 ∧ o.2.size ≤ 140737488355328 := by
  unfold rwHs rwZb
  split
  · rename_i ok
    unfold rwOk at ok
    simp only [Bool.and_eq_true] at ok
    rw [nmsB_len]
    have h1 := rgB_sz ok.2
    have h2 := (rgB_facts ok.2).2.2.2.2
    exact ⟨by omega, fun o ho => by have := h2 o ho; omega⟩
  · exact ⟨hz, hb⟩
end Go.Proofs.YtifdocjagnhncabDoor

/- The laws' lower and has; what names a host nowhere stays. -/
namespace Go.Proofs.YtifdocjagnhncabDoor
open Go.RowKit Go.Shelf
set_option maxRecDepth 100000
set_option linter.unusedVariables false
set_option linter.unusedSimpArgs false

set_option maxRecDepth 100000 in
set_option maxHeartbeats 8000000 in
theorem llower_any (s : ByteArray) (w : World) (hs : s.size ≤ 140737488355328) :
    Calls Tryd.prog 15 #[.string s] w fun e w' => e = .returned (.string (strOfNums (lowZ s))) ∧ Later w w' := by
  obtain ⟨i0, hi0, hz0, hz1, hz2⟩ := info_partsS info_u8
  have hs' : (s.size : Int) ≤ 140737488355328 := by omega
  go_enter Tryd.func15, Tryd.ntmps15
  go_upto_region 3 with fail
  go_loopw [3, 4, 5] (fun bv iv cv wr => ∃ pos : Nat, pos ≤ s.size ∧ iv = .int .i64 (pos : Int) ∧ Below w.heap.size w wr ∧ Hid (wr.ownsRow w.heap.size 5 1 bv ((lowZ s).take pos).length (((lowZ s).take pos).map (Value.int .u8)))) (fun _ iv _ _ => s.size - (intOf iv).toNat)
  case atStart => exact ⟨0, by omega, rfl, Below.refl _ _, ⟨rfl, .inl ⟨rfl, rfl⟩⟩⟩
  case round =>
    obtain ⟨pos, hp, rfl, lr, HO⟩ := hrel
    by_cases hlt : pos < s.size
    · have hlt1 : (pos : Int) < s.size := by omega
      have hbg := bAt_get s pos hlt
      have HS : Hid ((lowZ s).take (pos + 1) = (lowZ s).take pos ++ [sml (bAt s pos)]) := by
        show _ = _
        have h' : pos < (lowZ s).length := by rw [lowZ_len]; exact hlt
        rw [List.take_succ_eq_append_getElem h']
        have := lowZ_at s pos hlt
        rw [List.getElem?_eq_getElem h'] at this
        rw [Option.some.inj this]
      have HML : Hid (((lowZ s).take pos).length = pos) := by show _ = _; rw [List.length_take, lowZ_len]; omega
      generalize (lowZ s).take pos = M at *
      rw [← hbg] at HS
      clear hbg
      have hcr : (0 : Int) ≤ ((s[pos]'hlt).toNat : Int) ∧ ((s[pos]'hlt).toNat : Int) ≤ 255 := by have := (s[pos]'hlt).toNat_lt; omega
      have hM1 : M.length ≤ 140737488355327 := by rw [HML.out]; omega
      go_upto_region 6 with fail
      generalize (((s[pos]'hlt).toNat : Nat) : Int) = c at *
      by_cases a1 : 65 ≤ c
      · by_cases a2 : c ≤ 90
        · have hsm : sml c = c + 32 := by unfold sml; rw [if_pos ⟨a1, a2⟩]
          rw [hsm] at HS
          clear hsm
          go_upto_region 8 with fail
          have hcr2 : 0 ≤ c + 32 ∧ c + 32 ≤ 255 := by omega
          generalize c + 32 = d at *
          clear a1 a2 hcr
          have la := later_allocR wr (.cells #[.int .u8 d] 5); have HO1 := hide (ownsS_later HO.out la); have hb1 : w.heap.size ≤ (wr.alloc (.cells #[.int .u8 d] 5)).heap.size := (lr.trans (la.mono lr.size)).size; have HRD : Hid (Rd (wr.alloc (.cells #[.int .u8 d] 5)).heap.size (wr.alloc (.cells #[.int .u8 d] 5)) (.slice (some ⟨wr.heap.size, 0, none⟩) 1 1) [d]) := rd_mark [d] 5 (0, 0) wr (by simp) (by simp); obtain ⟨v2, w2, hrun, hown2, hgb⟩ := run_app (wr.alloc (.cells #[.int .u8 d] 5)) 23 23 5 w.heap.size i0 Tryd.underlying23 hi0 hz0 hz1 hz2 _ M HO1.out (wr.alloc (.cells #[.int .u8 d] 5)).heap.size (.slice (some ⟨wr.heap.size, 0, none⟩) 1 1) [d] HRD.out (by simp; omega) hb1; obtain ⟨va2, vc2, rfl⟩ := owns_form hown2; obtain ⟨va1, vc1, rfl⟩ := owns_form HO1.out; have l2 : Below w.heap.size w w2 := grown_later hgb (lr.trans (la.mono lr.size)) hb1 (fun k hk => (HO1.out.lt k hk).1); have HRUN := hide hrun; have HO2 := hide hown2; clear hrun hown2 hgb; generalize hm2 : (M ++ [d]).length = m2 at HRUN HO2; have HM2 := hide hm2; clear hm2; go_wp2_with (at_builtin; refine wpList_appw rfl (.tmp 23) (.tmp 25) 23 rfl _ _ rfl rfl _ w2 HRUN.out ?_); go_roundw; exact ⟨pos + 1, by omega, by go_num, l2, by rw [HS.out, HM2.out]; exact HO2⟩; (simp [intOf]; omega)
        · have hsm : sml c = c := by unfold sml; rw [if_neg (by omega)]
          rw [hsm] at HS
          clear hsm
          go_upto_region 8 with fail
          clear a1 a2
          generalize c = d at *
          have la := later_allocR wr (.cells #[.int .u8 d] 5); have HO1 := hide (ownsS_later HO.out la); have hb1 : w.heap.size ≤ (wr.alloc (.cells #[.int .u8 d] 5)).heap.size := (lr.trans (la.mono lr.size)).size; have HRD : Hid (Rd (wr.alloc (.cells #[.int .u8 d] 5)).heap.size (wr.alloc (.cells #[.int .u8 d] 5)) (.slice (some ⟨wr.heap.size, 0, none⟩) 1 1) [d]) := rd_mark [d] 5 (0, 0) wr (by simp) (by simp); obtain ⟨v2, w2, hrun, hown2, hgb⟩ := run_app (wr.alloc (.cells #[.int .u8 d] 5)) 23 23 5 w.heap.size i0 Tryd.underlying23 hi0 hz0 hz1 hz2 _ M HO1.out (wr.alloc (.cells #[.int .u8 d] 5)).heap.size (.slice (some ⟨wr.heap.size, 0, none⟩) 1 1) [d] HRD.out (by simp; omega) hb1; obtain ⟨va2, vc2, rfl⟩ := owns_form hown2; obtain ⟨va1, vc1, rfl⟩ := owns_form HO1.out; have l2 : Below w.heap.size w w2 := grown_later hgb (lr.trans (la.mono lr.size)) hb1 (fun k hk => (HO1.out.lt k hk).1); have HRUN := hide hrun; have HO2 := hide hown2; clear hrun hown2 hgb; generalize hm2 : (M ++ [d]).length = m2 at HRUN HO2; have HM2 := hide hm2; clear hm2; go_wp2_with (at_builtin; refine wpList_appw rfl (.tmp 23) (.tmp 25) 23 rfl _ _ rfl rfl _ w2 HRUN.out ?_); go_roundw; exact ⟨pos + 1, by omega, by go_num, l2, by rw [HS.out, HM2.out]; exact HO2⟩; (simp [intOf]; omega)
      · have hsm : sml c = c := by unfold sml; rw [if_neg (by omega)]
        rw [hsm] at HS
        clear hsm
        go_upto_region 8 with fail
        clear a1
        generalize c = d at *
        have la := later_allocR wr (.cells #[.int .u8 d] 5); have HO1 := hide (ownsS_later HO.out la); have hb1 : w.heap.size ≤ (wr.alloc (.cells #[.int .u8 d] 5)).heap.size := (lr.trans (la.mono lr.size)).size; have HRD : Hid (Rd (wr.alloc (.cells #[.int .u8 d] 5)).heap.size (wr.alloc (.cells #[.int .u8 d] 5)) (.slice (some ⟨wr.heap.size, 0, none⟩) 1 1) [d]) := rd_mark [d] 5 (0, 0) wr (by simp) (by simp); obtain ⟨v2, w2, hrun, hown2, hgb⟩ := run_app (wr.alloc (.cells #[.int .u8 d] 5)) 23 23 5 w.heap.size i0 Tryd.underlying23 hi0 hz0 hz1 hz2 _ M HO1.out (wr.alloc (.cells #[.int .u8 d] 5)).heap.size (.slice (some ⟨wr.heap.size, 0, none⟩) 1 1) [d] HRD.out (by simp; omega) hb1; obtain ⟨va2, vc2, rfl⟩ := owns_form hown2; obtain ⟨va1, vc1, rfl⟩ := owns_form HO1.out; have l2 : Below w.heap.size w w2 := grown_later hgb (lr.trans (la.mono lr.size)) hb1 (fun k hk => (HO1.out.lt k hk).1); have HRUN := hide hrun; have HO2 := hide hown2; clear hrun hown2 hgb; generalize hm2 : (M ++ [d]).length = m2 at HRUN HO2; have HM2 := hide hm2; clear hm2; go_wp2_with (at_builtin; refine wpList_appw rfl (.tmp 23) (.tmp 25) 23 rfl _ _ rfl rfl _ w2 HRUN.out ?_); go_roundw; exact ⟨pos + 1, by omega, by go_num, l2, by rw [HS.out, HM2.out]; exact HO2⟩; (simp [intOf]; omega)
    · obtain rfl : pos = s.size := by omega
      have hnl : ¬ ((s.size : Nat) : Int) < s.size := by omega
      rw [show (lowZ s).take s.size = lowZ s from List.take_of_length_le (by rw [lowZ_len]; exact Nat.le_refl _)] at HO
      have hcv := conv_rd 23 9 5 Tryd.underlying23 Tryd.underlying5 Tryd.underlying9 (Ow.of_row HO.out).rd
      obtain ⟨va, vc, rfl⟩ := owns_form HO.out
      have HW : Hid (Later w wr) := lr
      clear HO lr
      generalize (lowZ s).length = nl at *
      generalize hrs : strOfNums (lowZ s) = rs at *
      have HRS := hide hrs
      clear hrs
      go_wp2_with fail
      go_ret
      exact ⟨by rw [HRS.out]; rfl, HW.out⟩


def h15 : ByteArray := ⟨#[50, 53, 52, 46, 50, 53, 52, 46, 50, 53, 52, 46, 50, 53, 52]⟩
/-- A text holds the other host's address. -/
def HasH (s : ByteArray) : Prop := h15.data.toList <:+: s.data.toList
open Classical in
noncomputable def hasB (s : ByteArray) : Bool := decide (HasH s)
open Classical in
theorem hasB_yes {s : ByteArray} (h : HasH s) : hasB s = true := decide_eq_true h
open Classical in
theorem hasB_not {s : ByteArray} (h : ¬ HasH s) : hasB s = false := decide_eq_false h
open Classical in
theorem hasB_no {s : ByteArray} (h : hasB s = false) : ¬ HasH s := of_decide_eq_false h
theorem ext_inf (s : ByteArray) (i j : Nat) : (s.extract i j).data.toList <:+: s.data.toList := by
  rw [ba_ext_list]
  exact List.IsInfix.trans (List.drop_suffix _ _).isInfix (List.take_prefix _ _).isInfix
theorem hasH_at {s : ByteArray} {i : Nat} (h : eqS (s.extract i (i + 15)) h15 = true) : HasH s := by
  have := eqS_iff.1 h
  unfold HasH
  rw [← this]
  exact ext_inf s i _
theorem hasH_no {s : ByteArray} (h : ∀ i, i + 15 ≤ s.size → eqS (s.extract i (i + 15)) h15 = false) : ¬ HasH s := by
  rintro ⟨a, b, e⟩
  have hl := congrArg List.length e
  have h15l : h15.data.toList.length = 15 := rfl
  simp only [List.length_append, h15l] at hl
  rw [← ba_len] at hl
  have h1 := h a.length (by omega)
  have : s.extract a.length (a.length + 15) = h15 := by
    apply ba_ext
    rw [ba_ext_list, ← e, ← h15l, List.take_left' (by simp), List.drop_left]
  rw [this, eqS_iff.2 rfl] at h1
  cases h1
theorem cutA_inf (s p : ByteArray) : (cutA s p).data.toList <:+: s.data.toList := by
  rcases cut_spec s p with ⟨_, h, _⟩ | ⟨_, h1, _, _⟩
  · exact ⟨[], p.data.toList ++ (cutZ s p).data.toList, by rw [h]; simp⟩
  · rw [h1]; exact List.infix_rfl
theorem cutZ_inf (s p : ByteArray) : (cutZ s p).data.toList <:+: s.data.toList := by
  rcases cut_spec s p with ⟨_, h, _⟩ | ⟨_, _, h1, _⟩
  · exact ⟨(cutA s p).data.toList ++ p.data.toList, [], by rw [h]; simp⟩
  · rw [h1]; exact List.nil_infix
theorem lns_inf : ∀ (n : Nat) (s : ByteArray), s.size ≤ n → ∀ x ∈ lnsB s, x.1.data.toList <:+: s.data.toList
  | 0, s, h, x, hx => by rw [lnsB_nil (by omega)] at hx; cases hx
  | n + 1, s, h, x, hx => by
    by_cases h0 : s.size = 0
    · rw [lnsB_nil h0] at hx; cases hx
    · have hz := (cut_sizes s crB).2 h0 (by decide)
      rw [lnsB_cons h0] at hx
      rcases List.mem_cons.1 hx with rfl | hx
      · exact cutA_inf s crB
      · exact List.IsInfix.trans (lns_inf n (cutZ s crB) (by omega) x hx) (cutZ_inf s crB)
theorem plB_no {c : Cg} (hc : c.host = h15) {t : ByteArray} (h : ¬ HasH t) : plB c t = t := by
  unfold plB
  rw [if_pos]
  cases he : eqS (cutA t cln) c.host with
  | false => rfl
  | true =>
    exfalso
    apply h
    unfold HasH
    rw [← hc, ← eqS_iff.1 he]
    exact cutA_inf t cln
theorem lnB_no {c : Cg} (hc : c.host = h15) (hm : c.media = []) {l : ByteArray} (h : ¬ HasH l) : lnB c l = l := by
  unfold lnB
  rw [if_neg, if_neg]
  · exact mlB_same (by rw [hm]; intro m hm; cases hm) l
  · rintro ⟨_, e⟩
    apply h
    obtain ⟨t, rfl⟩ := suf_app e
    rw [hc]
    exact ⟨(t ++ omB).data.toList, [], by simp⟩
  · intro e
    apply h
    rw [eqS_iff.1 e, hc]
    exact ⟨cnB.data.toList, [], by simp⟩
theorem rw_other {c : Cg} (hc : c.host = h15) (hm : c.media = []) {st : ByteArray} {hs : List Hr} {zb : List Int} (hB : Mt.By zb) (h1 : ¬ HasH (strOfNums zb)) (h2 : ∀ h ∈ hs, ¬ HasH h.2) : rwHs c st hs zb = hs ∧ rwZb c st hs zb = zb :=
  rw_keep hB (fun x hx => lnB_no hc hm (fun hh => h1 (List.IsInfix.trans hh (lns_inf _ _ (Nat.le_refl _) x hx)))) (fun h hh m e => plB_no hc (fun hq => h2 h hh (List.IsInfix.trans hq (List.IsInfix.trans (ext_inf _ _ _) (cutZ_inf _ _)))))
theorem ad_other : adB 4278124286 = h15 := by decide +kernel
/-- Headers of other names stay. -/
theorem rwHs_other (c : Cg) (st : ByteArray) (hs : List Hr) (zb : List Int) (j : Nat) (h1 : j < hs.length) (h2 : j < (rwHs c st hs zb).length) (hv : swV hs[j].1 viN = false) (hk : swV hs[j].1 ctN = false) (hn : swV hs[j].1 clN = false) : (rwHs c st hs zb)[j] = hs[j] := by
  unfold rwHs
  split
  · unfold mgH vuB
    simp [hv, hk, hn]
  · rfl
theorem low_vi (s : ByteArray) : ((strOfNums (lowZ s)).toList == [118, 105, 97]) = swV s viN := by
  rw [← low_eq, ← str_beq, ByteArray.toList_eq (strOfNums (lowZ viN))]
  congr 1
theorem low_ct (s : ByteArray) : ((strOfNums (lowZ s)).toList == [99, 111, 110, 116, 97, 99, 116]) = swV s ctN := by
  rw [← low_eq, ← str_beq, ByteArray.toList_eq (strOfNums (lowZ ctN))]
  congr 1
theorem low_cn (s : ByteArray) : ((strOfNums (lowZ s)).toList == [99, 111, 110, 116, 101, 110, 116, 45, 108, 101, 110, 103, 116, 104]) = swV s clN := by
  rw [← low_eq, ← str_beq, ByteArray.toList_eq (strOfNums (lowZ clN))]
  congr 1
theorem h15_beq (s : ByteArray) : (s.toList == [50, 53, 52, 46, 50, 53, 52, 46, 50, 53, 52, 46, 50, 53, 52]) = eqS s h15 := by
  rw [← str_beq, ByteArray.toList_eq h15]
  rfl

set_option maxHeartbeats 4000000 in
theorem lhas_any (s : ByteArray) (w : World) (hs : s.size ≤ 140737488355328) :
    Calls Tryd.prog 16 #[.string s] w fun e w' => e = .returned (.bool (hasB s)) ∧ Later w w' := by
  have hs' : (s.size : Int) ≤ 140737488355328 := by omega
  go_enter Tryd.func16, Tryd.ntmps16
  go_upto_region 2 with fail
  go_loopw [3] (fun iv wr => ∃ pos : Nat, pos ≤ s.size + 1 ∧ iv = .int .i64 (pos : Int) ∧ wr = w ∧ Hid (∀ j, j < pos → j + 15 ≤ s.size → eqS (s.extract j (j + 15)) h15 = false)) (fun iv _ => s.size + 2 - (intOf iv).toNat)
  case atStart => exact ⟨0, by omega, rfl, rfl, fun j hj => by omega⟩
  case round =>
    obtain ⟨pos, hp, rfl, rfl, HA⟩ := hrel
    by_cases hlt : pos + 15 ≤ s.size
    · have hlt1 : (pos : Int) + 15 ≤ s.size := by omega
      have hb := h15_beq (s.extract pos (pos + 15))
      have hq1 : (pos : Int) ≤ (pos : Int) + 15 := by omega
      cases hl : eqS (s.extract pos (pos + 15)) h15 with
      | true =>
        have HV : Hid (hasB s = true) := hasB_yes (hasH_at hl)
        rw [hl] at hb
        clear hl HA
        go_wp2_with fail
        go_ret
        exact ⟨by rw [HV.out]; rfl, Later.refl _⟩
      | false =>
        have HN : Hid (∀ j, j < pos + 1 → j + 15 ≤ s.size → eqS (s.extract j (j + 15)) h15 = false) := fun j hj h2 => by
          rcases Nat.lt_or_eq_of_le (Nat.lt_succ_iff.1 hj) with h | rfl
          · exact HA.out j h h2
          · exact hl
        rw [hl] at hb
        clear hl HA
        go_wp2_with fail
        go_roundw
        case rel => exact ⟨pos + 1, by omega, by go_num, by first | trivial | rfl, HN⟩
        case measure => simp [intOf]; omega
    · have hnl : ¬ (pos : Int) + 15 ≤ s.size := by omega
      have HV : Hid (hasB s = false) := hasB_not (hasH_no (fun i hi => HA.out i (by omega) hi))
      go_wp2_with fail
      go_ret
      exact ⟨by rw [HV.out]; rfl, Later.refl _⟩
end Go.Proofs.YtifdocjagnhncabDoor

/- The walk of SipOthers. -/
namespace Go.Proofs.YtifdocjagnhncabDoor
open Go.RowKit Go.Shelf
set_option maxRecDepth 100000
set_option linter.unusedVariables false
set_option linter.unusedSimpArgs false

set_option maxRecDepth 100000 in
set_option maxHeartbeats 8000000 in
theorem walk_SipOthers (w : World) (hT : TabI w) (hM : TabM w) (st : ByteArray) (sv sb : Value) (hs : List Hr) (zb : List Int) (hy : Mt.By zb) (hH : RdM w.heap.size w sv hs) (hB : Rd w.heap.size w sb zb)
    (hz : st.size ≤ 140737488351232 ∧ (∀ o ∈ hs, o.1.size ≤ 140737488351232 ∧ o.2.size ≤ 140737488351232) ∧ hs.length ≤ 140737488351232 ∧ zb.length ≤ 140737488351232)
    (h t p q : Int) (mv : Value) (ml : List (Int × Int)) (hh : 0 ≤ h ∧ h ≤ 4294967295) (ht : 0 ≤ t ∧ t ≤ 4294967295) (hp : 0 ≤ p ∧ p ≤ 65535) (hq : 0 ≤ q ∧ q ≤ 65535) (hI : RdP2 w.heap.size w mv ml) (hm : ∀ m ∈ ml, (0 ≤ m.1 ∧ m.1 ≤ 65535) ∧ (0 ≤ m.2 ∧ m.2 ≤ 65535)) (hml : ml.length ≤ 140737488351232) :
    Calls Tryd.prog 5 #[.agg #[.string st, sv, sb], .agg #[.int .u32 h, .int .u32 t, .int .u16 p, .int .u16 q, mv]] w fun e w' => e = .returned (.bool true) ∧ Below w.heap.size w w' := by
  obtain ⟨sa, scp, rfl, _, _⟩ := hH.slice
  obtain ⟨ba, bcp, rfl, _, _⟩ := hB.slice
  obtain ⟨ma, mc, rfl, _, _⟩ := hI.slice
  obtain ⟨hz1, hz2, _, hz3⟩ := hz
  obtain ⟨hzz, hl100, hzo⟩ := szM_few2 (n := zb.length) hz1 hz2 hz3
  have hb4 : Later w ((w.alloc (.cells #[.string st, .slice sa hs.length scp, .slice ba zb.length bcp] 25)).alloc (.cells #[.int .u32 h, .int .u32 t, .int .u16 p, .int .u16 q, .slice ma ml.length mc] 30)) := ((Below.refl _ _).alloc (Nat.le_refl _) _).alloc (by simp) _
  have C0 := hide (show ((w.alloc (.cells #[.string st, .slice sa hs.length scp, .slice ba zb.length bcp] 25)).alloc (.cells #[.int .u32 h, .int .u32 t, .int .u16 p, .int .u16 q, .slice ma ml.length mc] 30)).heap[w.heap.size]? = some (.cells #[.string st, .slice sa hs.length scp, .slice ba zb.length bcp] 25 (0, 0)) from (Below.heap_alloc _ _ _ (by simp)).trans (heap_alloc_new w _))
  have C1 : Hid (((w.alloc (.cells #[.string st, .slice sa hs.length scp, .slice ba zb.length bcp] 25)).alloc (.cells #[.int .u32 h, .int .u32 t, .int .u16 p, .int .u16 q, .slice ma ml.length mc] 30)).heap[w.heap.size + 1]? = some (.cells #[.int .u32 h, .int .u32 t, .int .u16 p, .int .u16 q, .slice ma ml.length mc] 30 (0, 0))) := by
    have := heap_alloc_new (w.alloc (.cells #[.string st, .slice sa hs.length scp, .slice ba zb.length bcp] 25)) (.cells #[.int .u32 h, .int .u32 t, .int .u16 p, .int .u16 q, .slice ma ml.length mc] 30)
    rw [World.size_alloc] at this
    exact this
  have HFW := hide (few_any st _ _ hs zb _ (hH.later hb4) (hB.later hb4))
  generalize hs.take 100 = hl at *
  have hc := cg_wf hh ht hp hq hm
  have HRW := hide (fun W sv2 (l : Later w W) (hI2 : RdM W.heap.size W sv2 hl) => rewriteL_any h t p q ml (.slice ma ml.length mc) st sv2 (.slice ba zb.length bcp) hl zb W (hT.later l) (hM.later l) hh ht hc (hI.later l) hI2 (hB.later l) (by omega) (by omega) hzz)
  obtain ⟨hnl, _⟩ := rwHs_names (cgOf h t p q ml) st hl zb
  have HOT := hide (rwHs_other (cgOf h t p q ml) st hl zb)
  have HRO := hide (fun (hB1 : ¬ HasH (strOfNums zb)) (hB2 : ∀ o ∈ hl, ¬ HasH o.2) => rw_other (c := cgOf 4278124286 t p q []) ad_other rfl (st := st) hy hB1 hB2)
  have HRW2 := hide (fun W sv2 (l : Later w W) (hI2 : RdM W.heap.size W sv2 hl) => rewriteL_any 4278124286 t p q [] (.slice none 0 0) st sv2 (.slice ba zb.length bcp) hl zb W (hT.later l) (hM.later l) (by decide) ht (cg_wf (by decide) ht hp hq (fun m hm => by cases hm)) (.inl ⟨none, 0, rfl, rfl, by omega⟩) hI2 (hB.later l) (by omega) (by omega) hzz)
  have HL := hide (fun W (l : Later w W) => live14_any W (hT.later l) (hM.later l))
  have HBB := hide (fun W (l : Later w W) => hB.later l)
  generalize rwHs (cgOf h t p q ml) st hl zb = rh at *
  generalize rwZb (cgOf h t p q ml) st hl zb = rz at *
  have HNL := hide hnl
  have HZO := hide hzo
  clear hnl hzo hzz hz2
  go_enter Tryd.func5, Tryd.ntmps5
  go_upto_region 1 with fail
  generalize (w.alloc (.cells #[.string st, .slice sa hs.length scp, .slice ba zb.length bcp] 25)).alloc (.cells #[.int .u32 h, .int .u32 t, .int .u16 p, .int .u16 q, .slice ma ml.length mc] 30) = w0 at *
  generalize w.heap.size = gm at C0 C1 ⊢
  have k0 := block_cell C0.out
  go_wp2_with fail
  refine HFW.out.mono ?_
  rintro e w1 ⟨l1, sv2, rfl, hI1⟩
  obtain ⟨a2, c2, rfl, hc21, hc22⟩ := hI1.slice
  clear k0 HFW
  have la := later_allocR w1 (.cells #[.string st, .slice a2 hl.length c2, .slice ba zb.length bcp] 25)
  have D5 := hide (heap_alloc_new w1 (.cells #[.string st, .slice a2 hl.length c2, .slice ba zb.length bcp] 25))
  have HI := hide ((hI1.later l1).later la)
  have HIA := hide (fun W (l : Later w0 W) => hI1.later l)
  have K2 : Later w0 (w1.alloc (.cells #[.string st, .slice a2 hl.length c2, .slice ba zb.length bcp] 25)) := Later.trans l1 la
  go_upto_region 2 with fail
  have L2 : Later w (w1.alloc (.cells #[.string st, .slice a2 hl.length c2, .slice ba zb.length bcp] 25)) := (Later.trans hb4 l1).trans la
  have D1 := hide (later_keep (Later.trans l1 la) C1.out)
  change Code.wp _ _ _ _ (w1.alloc (.cells #[.string st, .slice a2 hl.length c2, .slice ba zb.length bcp] 25))
  generalize w1.alloc (.cells #[.string st, .slice a2 hl.length c2, .slice ba zb.length bcp] 25) = w2 at *
  generalize w1.heap.size = g5 at *
  clear hI1 la l1 C0 C1
  have k5 := block_cell D5.out
  have k1 := block_cell D1.out
  go_wp2_with fail
  refine (HRW.out w2 _ L2 HI.out).mono ?_
  rintro e w3 ⟨l3, vh, vb, rfl, hrow, hO⟩
  obtain ⟨va, vc, rfl⟩ := owns_form hrow
  obtain ⟨xa, xc, rfl, _, _⟩ := hO.slice
  clear k5 k1
  have la := later_allocR w3 (.cells #[.string st, .slice va rh.length vc, .slice xa rz.length xc] 25)
  have D6 := hide (heap_alloc_new w3 (.cells #[.string st, .slice va rh.length vc, .slice xa rz.length xc] 25))
  have HA := hide ((ownM_rd hrow).later la)
  have HB2 := hide (hO.rd.later la)
  go_upto_region 3 with fail
  have D5' := hide (later_keep (Later.trans l3 la) D5.out)
  have HI' := hide (HI.out.later (Later.trans l3 la))
  have K4 : Later w0 (w3.alloc (.cells #[.string st, .slice va rh.length vc, .slice xa rz.length xc] 25)) := K2.trans (Later.trans l3 la)
  have D1' := hide (later_keep (Later.trans l3 la) D1.out)
  have L4 : Later w (w3.alloc (.cells #[.string st, .slice va rh.length vc, .slice xa rz.length xc] 25)) := L2.trans (Later.trans l3 la)
  change Code.wp _ _ _ _ (w3.alloc (.cells #[.string st, .slice va rh.length vc, .slice xa rz.length xc] 25))
  generalize w3.alloc (.cells #[.string st, .slice va rh.length vc, .slice xa rz.length xc] 25) = w4 at *
  generalize w3.heap.size = g6 at *
  clear hrow hO la l3 D5 HI
  have k5 := block_cell D5'.out
  have k6 := block_cell D6.out
  have hne : ((rh.length : Int) != (hl.length : Int)) = false := (by have := HNL.out; simp; omega)
  go_upto_region 6 with fail
  clear hne k5 k6
  go_loopw [7, 8] (fun iv lv wr => ∃ k : Nat, k ≤ rh.length ∧ iv = .int .i64 (k : Int) ∧ Later w4 wr) (fun iv _ _ => rh.length - (intOf iv).toNat)
  case atStart => exact ⟨0, by omega, rfl, Later.refl _⟩
  case round =>
    obtain ⟨k, hk, rfl, lr⟩ := hrel
    have k6 := block_cell (later_keep lr D6.out)
    by_cases hlt : k < rh.length
    · have hlt' : (k : Int) < (rh.length : Int) := by omega
      have hlt2 : k < hl.length := by have := HNL.out; omega
      have hlt2' : (k : Int) < (hl.length : Int) := by omega
      obtain ⟨b, off, cp, e, _, _, hbn, hcs⟩ := (HA.out.later lr).cells (by omega)
      obtain ⟨rfl, rfl⟩ : va = some ⟨b, off, none⟩ ∧ vc = cp := by injection e with h1 h2 h3; exact ⟨h1, h3⟩
      clear e
      obtain ⟨b2, off2, cp2, e, _, _, hbn2, hcs2⟩ := (HI'.out.later lr).cells (by omega)
      obtain ⟨rfl, rfl⟩ : a2 = some ⟨b2, off2, none⟩ ∧ c2 = cp2 := by injection e with h1 h2 h3; exact ⟨h1, h3⟩
      clear e
      have d0 := hcs k hlt 0 (by omega)
      have d1 := hcs k hlt 1 (by omega)
      have e0 := hcs2 k hlt2 0 (by omega)
      have e1 := hcs2 k hlt2 1 (by omega)
      have HOK := hide (HOT.out k hlt2 hlt)
      have hxs := (HZO.out hl[k] (List.getElem_mem hlt2)).1
      clear hcs hcs2
      generalize rh[k] = r1 at *
      generalize hl[k] = r2 at *
      obtain ⟨x, y⟩ := r2
      simp only [hrc, List.getElem?_cons_zero, List.getElem?_cons_succ, Nat.add_zero] at d0 d1 e0 e1 HOK hxs
      have k5 := block_cell (later_keep lr D5'.out)
      have HV1 := hide (low_vi x)
      have HV2 := hide (low_ct x)
      have HV3 := hide (low_cn x)
      have HLW := hide (llower_any x wr hxs)
      generalize strOfNums (lowZ x) = lx at *
      generalize swV x viN = b1 at *
      generalize swV x ctN = b2' at *
      generalize swV x clN = b3 at *
      have hv1 := HV1.out
      have hv2 := HV2.out
      have hv3 := HV3.out
      go_wp2_with fail
      refine HLW.out.mono ?_
      rintro e w9 ⟨rfl, l9⟩
      clear k5 k6
      cases b1 with
      | true =>
        go_upto_region 9 with fail
        refine anyR_begin (R := Later) Later.pre Later.drew 23 rfl (by kernel_rfl) (fun V0 hV0 => ?_)
        refine anyR_val Later.pre 0 rfl (by kernel_rfl) (by kernel_rfl) (by kernel_rfl) (fun _ _ _ _ h => h) rfl ?_; apply Exists.intro; refine ⟨fun v1 hv1 => ?_, ?_⟩; (· (go_simp; rfl)); simp only [Act.put, List.setIfInBounds_toArray, List.set_cons_zero, List.set_cons_succ]
        refine anyR_val Later.pre 1 rfl (by kernel_rfl) (by kernel_rfl) (by kernel_rfl) (fun _ _ _ _ h => h) rfl ?_; apply Exists.intro; refine ⟨fun v1 hv1 => ?_, ?_⟩; (· (go_simp; rfl)); simp only [Act.put, List.setIfInBounds_toArray, List.set_cons_zero, List.set_cons_succ]
        refine anyR_val Later.pre 2 rfl (by kernel_rfl) (by kernel_rfl) (by kernel_rfl) (fun _ _ _ _ h => h) rfl ?_; apply Exists.intro; refine ⟨fun v1 hv1 => ?_, ?_⟩; (· (go_simp; rfl)); simp only [Act.put, List.setIfInBounds_toArray, List.set_cons_zero, List.set_cons_succ]
        refine anyR_skipG Later.pre 3 rfl (by kernel_rfl) (by kernel_rfl) (by kernel_rfl) (fun _ _ _ _ h => h) (by rfl) ?_; simp only [Act.put, List.setIfInBounds_toArray, List.set_cons_zero, List.set_cons_succ]
        refine anyR_skipG Later.pre 4 rfl (by kernel_rfl) (by kernel_rfl) (by kernel_rfl) (fun _ _ _ _ h => h) (by rfl) ?_; simp only [Act.put, List.setIfInBounds_toArray, List.set_cons_zero, List.set_cons_succ]
        refine anyR_val Later.pre 5 rfl (by kernel_rfl) (by kernel_rfl) (by kernel_rfl) (fun _ _ _ _ h => h) rfl ?_; apply Exists.intro; refine ⟨fun v1 hv1 => ?_, ?_⟩; (· (go_simp; rfl)); simp only [Act.put, List.setIfInBounds_toArray, List.set_cons_zero, List.set_cons_succ]
        refine anyR_val Later.pre 6 rfl (by kernel_rfl) (by kernel_rfl) (by kernel_rfl) (fun _ _ _ _ h => h) rfl ?_; apply Exists.intro; refine ⟨fun v1 hv1 => ?_, ?_⟩; (· (go_simp; rfl)); simp only [Act.put, List.setIfInBounds_toArray, List.set_cons_zero, List.set_cons_succ]
        refine anyR_skipG Later.pre 7 rfl (by kernel_rfl) (by kernel_rfl) (by kernel_rfl) (fun _ _ _ _ h => h) (by rfl) ?_; simp only [Act.put, List.setIfInBounds_toArray, List.set_cons_zero, List.set_cons_succ]
        refine anyR_skipG Later.pre 8 rfl (by kernel_rfl) (by kernel_rfl) (by kernel_rfl) (fun _ _ _ _ h => h) (by rfl) ?_; simp only [Act.put, List.setIfInBounds_toArray, List.set_cons_zero, List.set_cons_succ]
        refine anyR_val Later.pre 9 rfl (by kernel_rfl) (by kernel_rfl) (by kernel_rfl) (fun _ _ _ _ h => h) rfl ?_; apply Exists.intro; refine ⟨fun v1 hv1 => ?_, ?_⟩; (· (go_simp; rfl)); simp only [Act.put, List.setIfInBounds_toArray, List.set_cons_zero, List.set_cons_succ]
        refine anyR_val Later.pre 10 rfl (by kernel_rfl) (by kernel_rfl) (by kernel_rfl) (fun _ _ _ _ h => h) rfl ?_; apply Exists.intro; refine ⟨fun v1 hv1 => ?_, ?_⟩; (· (go_simp; rfl)); simp only [Act.put, List.setIfInBounds_toArray, List.set_cons_zero, List.set_cons_succ]
        refine anyR_skipG Later.pre 11 rfl (by kernel_rfl) (by kernel_rfl) (by kernel_rfl) (fun _ _ _ _ h => h) (by rfl) ?_; simp only [Act.put, List.setIfInBounds_toArray, List.set_cons_zero, List.set_cons_succ]
        refine anyR_skipG Later.pre 12 rfl (by kernel_rfl) (by kernel_rfl) (by kernel_rfl) (fun _ _ _ _ h => h) (by rfl) ?_; simp only [Act.put, List.setIfInBounds_toArray, List.set_cons_zero, List.set_cons_succ]
        refine anyR_skipG Later.pre 13 rfl (by kernel_rfl) (by kernel_rfl) (by kernel_rfl) (fun _ _ _ _ h => h) (by rfl) ?_; simp only [Act.put, List.setIfInBounds_toArray, List.set_cons_zero, List.set_cons_succ]
        refine anyR_skipG Later.pre 14 rfl (by kernel_rfl) (by kernel_rfl) (by kernel_rfl) (fun _ _ _ _ h => h) (by rfl) ?_; simp only [Act.put, List.setIfInBounds_toArray, List.set_cons_zero, List.set_cons_succ]
        refine anyR_skipG Later.pre 15 rfl (by kernel_rfl) (by kernel_rfl) (by kernel_rfl) (fun _ _ _ _ h => h) (by rfl) ?_; simp only [Act.put, List.setIfInBounds_toArray, List.set_cons_zero, List.set_cons_succ]
        refine anyR_skipG Later.pre 16 rfl (by kernel_rfl) (by kernel_rfl) (by kernel_rfl) (fun _ _ _ _ h => h) (by rfl) ?_; simp only [Act.put, List.setIfInBounds_toArray, List.set_cons_zero, List.set_cons_succ]
        refine anyR_skipG Later.pre 17 rfl (by kernel_rfl) (by kernel_rfl) (by kernel_rfl) (fun _ _ _ _ h => h) (by rfl) ?_; simp only [Act.put, List.setIfInBounds_toArray, List.set_cons_zero, List.set_cons_succ]
        refine anyR_skipG Later.pre 18 rfl (by kernel_rfl) (by kernel_rfl) (by kernel_rfl) (fun _ _ _ _ h => h) (by rfl) ?_; simp only [Act.put, List.setIfInBounds_toArray, List.set_cons_zero, List.set_cons_succ]
        refine anyR_skipG Later.pre 19 rfl (by kernel_rfl) (by kernel_rfl) (by kernel_rfl) (fun _ _ _ _ h => h) (by rfl) ?_; simp only [Act.put, List.setIfInBounds_toArray, List.set_cons_zero, List.set_cons_succ]
        refine anyR_skipG Later.pre 20 rfl (by kernel_rfl) (by kernel_rfl) (by kernel_rfl) (fun _ _ _ _ h => h) (by rfl) ?_; simp only [Act.put, List.setIfInBounds_toArray, List.set_cons_zero, List.set_cons_succ]
        refine anyR_skipG Later.pre 21 rfl (by kernel_rfl) (by kernel_rfl) (by kernel_rfl) (fun _ _ _ _ h => h) (by rfl) ?_; simp only [Act.put, List.setIfInBounds_toArray, List.set_cons_zero, List.set_cons_succ]
        refine anyR_val Later.pre 22 rfl (by kernel_rfl) (by kernel_rfl) (by kernel_rfl) (fun _ _ _ _ h => h) rfl ?_; apply Exists.intro; refine ⟨fun v1 hv1 => ?_, ?_⟩; (· (go_simp; rfl)); simp only [Act.put, List.setIfInBounds_toArray, List.set_cons_zero, List.set_cons_succ]
        refine anyR_done (by kernel_rfl) (fun V9 hV9 => ?_)
        have L9 := lr.trans (l9.trans (hV0.trans hV9))
        go_wp2_with fail
        go_roundw
        case rel => exact ⟨k + 1, by omega, by go_num, L9⟩
        case measure => simp [intOf]; omega
      | false =>
        cases b2' with
        | true =>
          go_upto_region 9 with fail
          refine anyR_begin (R := Later) Later.pre Later.drew 23 rfl (by kernel_rfl) (fun V0 hV0 => ?_)
          refine anyR_val Later.pre 0 rfl (by kernel_rfl) (by kernel_rfl) (by kernel_rfl) (fun _ _ _ _ h => h) rfl ?_; apply Exists.intro; refine ⟨fun v1 hv1 => ?_, ?_⟩; (· (go_simp; rfl)); simp only [Act.put, List.setIfInBounds_toArray, List.set_cons_zero, List.set_cons_succ]
          refine anyR_val Later.pre 1 rfl (by kernel_rfl) (by kernel_rfl) (by kernel_rfl) (fun _ _ _ _ h => h) rfl ?_; apply Exists.intro; refine ⟨fun v1 hv1 => ?_, ?_⟩; (· (go_simp; rfl)); simp only [Act.put, List.setIfInBounds_toArray, List.set_cons_zero, List.set_cons_succ]
          refine anyR_val Later.pre 2 rfl (by kernel_rfl) (by kernel_rfl) (by kernel_rfl) (fun _ _ _ _ h => h) rfl ?_; apply Exists.intro; refine ⟨fun v1 hv1 => ?_, ?_⟩; (· (go_simp; rfl)); simp only [Act.put, List.setIfInBounds_toArray, List.set_cons_zero, List.set_cons_succ]
          refine anyR_valG Later.pre 3 rfl (by kernel_rfl) (by kernel_rfl) (by kernel_rfl) (fun _ _ _ _ h => h) (by rfl) ?_; apply Exists.intro; refine ⟨fun v1 hv1 => ?_, ?_⟩; (· (go_simp; rfl)); simp only [Act.put, List.setIfInBounds_toArray, List.set_cons_zero, List.set_cons_succ]
          refine anyR_valG Later.pre 4 rfl (by kernel_rfl) (by kernel_rfl) (by kernel_rfl) (fun _ _ _ _ h => h) (by rfl) ?_; apply Exists.intro; refine ⟨fun v1 hv1 => ?_, ?_⟩; (· (go_simp; rfl)); simp only [Act.put, List.setIfInBounds_toArray, List.set_cons_zero, List.set_cons_succ]
          refine anyR_val Later.pre 5 rfl (by kernel_rfl) (by kernel_rfl) (by kernel_rfl) (fun _ _ _ _ h => h) rfl ?_; apply Exists.intro; refine ⟨fun v1 hv1 => ?_, ?_⟩; (· (go_simp; rfl)); simp only [Act.put, List.setIfInBounds_toArray, List.set_cons_zero, List.set_cons_succ]
          refine anyR_val Later.pre 6 rfl (by kernel_rfl) (by kernel_rfl) (by kernel_rfl) (fun _ _ _ _ h => h) rfl ?_; apply Exists.intro; refine ⟨fun v1 hv1 => ?_, ?_⟩; (· (go_simp; rfl)); simp only [Act.put, List.setIfInBounds_toArray, List.set_cons_zero, List.set_cons_succ]
          refine anyR_skipG Later.pre 7 rfl (by kernel_rfl) (by kernel_rfl) (by kernel_rfl) (fun _ _ _ _ h => h) (by rfl) ?_; simp only [Act.put, List.setIfInBounds_toArray, List.set_cons_zero, List.set_cons_succ]
          refine anyR_skipG Later.pre 8 rfl (by kernel_rfl) (by kernel_rfl) (by kernel_rfl) (fun _ _ _ _ h => h) (by rfl) ?_; simp only [Act.put, List.setIfInBounds_toArray, List.set_cons_zero, List.set_cons_succ]
          refine anyR_val Later.pre 9 rfl (by kernel_rfl) (by kernel_rfl) (by kernel_rfl) (fun _ _ _ _ h => h) rfl ?_; apply Exists.intro; refine ⟨fun v1 hv1 => ?_, ?_⟩; (· (go_simp; rfl)); simp only [Act.put, List.setIfInBounds_toArray, List.set_cons_zero, List.set_cons_succ]
          refine anyR_val Later.pre 10 rfl (by kernel_rfl) (by kernel_rfl) (by kernel_rfl) (fun _ _ _ _ h => h) rfl ?_; apply Exists.intro; refine ⟨fun v1 hv1 => ?_, ?_⟩; (· (go_simp; rfl)); simp only [Act.put, List.setIfInBounds_toArray, List.set_cons_zero, List.set_cons_succ]
          refine anyR_skipG Later.pre 11 rfl (by kernel_rfl) (by kernel_rfl) (by kernel_rfl) (fun _ _ _ _ h => h) (by rfl) ?_; simp only [Act.put, List.setIfInBounds_toArray, List.set_cons_zero, List.set_cons_succ]
          refine anyR_skipG Later.pre 12 rfl (by kernel_rfl) (by kernel_rfl) (by kernel_rfl) (fun _ _ _ _ h => h) (by rfl) ?_; simp only [Act.put, List.setIfInBounds_toArray, List.set_cons_zero, List.set_cons_succ]
          refine anyR_skipG Later.pre 13 rfl (by kernel_rfl) (by kernel_rfl) (by kernel_rfl) (fun _ _ _ _ h => h) (by rfl) ?_; simp only [Act.put, List.setIfInBounds_toArray, List.set_cons_zero, List.set_cons_succ]
          refine anyR_skipG Later.pre 14 rfl (by kernel_rfl) (by kernel_rfl) (by kernel_rfl) (fun _ _ _ _ h => h) (by rfl) ?_; simp only [Act.put, List.setIfInBounds_toArray, List.set_cons_zero, List.set_cons_succ]
          refine anyR_skipG Later.pre 15 rfl (by kernel_rfl) (by kernel_rfl) (by kernel_rfl) (fun _ _ _ _ h => h) (by rfl) ?_; simp only [Act.put, List.setIfInBounds_toArray, List.set_cons_zero, List.set_cons_succ]
          refine anyR_skipG Later.pre 16 rfl (by kernel_rfl) (by kernel_rfl) (by kernel_rfl) (fun _ _ _ _ h => h) (by rfl) ?_; simp only [Act.put, List.setIfInBounds_toArray, List.set_cons_zero, List.set_cons_succ]
          refine anyR_skipG Later.pre 17 rfl (by kernel_rfl) (by kernel_rfl) (by kernel_rfl) (fun _ _ _ _ h => h) (by rfl) ?_; simp only [Act.put, List.setIfInBounds_toArray, List.set_cons_zero, List.set_cons_succ]
          refine anyR_skipG Later.pre 18 rfl (by kernel_rfl) (by kernel_rfl) (by kernel_rfl) (fun _ _ _ _ h => h) (by rfl) ?_; simp only [Act.put, List.setIfInBounds_toArray, List.set_cons_zero, List.set_cons_succ]
          refine anyR_skipG Later.pre 19 rfl (by kernel_rfl) (by kernel_rfl) (by kernel_rfl) (fun _ _ _ _ h => h) (by rfl) ?_; simp only [Act.put, List.setIfInBounds_toArray, List.set_cons_zero, List.set_cons_succ]
          refine anyR_skipG Later.pre 20 rfl (by kernel_rfl) (by kernel_rfl) (by kernel_rfl) (fun _ _ _ _ h => h) (by rfl) ?_; simp only [Act.put, List.setIfInBounds_toArray, List.set_cons_zero, List.set_cons_succ]
          refine anyR_skipG Later.pre 21 rfl (by kernel_rfl) (by kernel_rfl) (by kernel_rfl) (fun _ _ _ _ h => h) (by rfl) ?_; simp only [Act.put, List.setIfInBounds_toArray, List.set_cons_zero, List.set_cons_succ]
          refine anyR_val Later.pre 22 rfl (by kernel_rfl) (by kernel_rfl) (by kernel_rfl) (fun _ _ _ _ h => h) rfl ?_; apply Exists.intro; refine ⟨fun v1 hv1 => ?_, ?_⟩; (· (go_simp; rfl)); simp only [Act.put, List.setIfInBounds_toArray, List.set_cons_zero, List.set_cons_succ]
          refine anyR_done (by kernel_rfl) (fun V9 hV9 => ?_)
          have L9 := lr.trans (l9.trans (hV0.trans hV9))
          go_wp2_with fail
          go_roundw
          case rel => exact ⟨k + 1, by omega, by go_num, L9⟩
          case measure => simp [intOf]; omega
        | false =>
          cases b3 with
          | true =>
            go_upto_region 9 with fail
            refine anyR_begin (R := Later) Later.pre Later.drew 23 rfl (by kernel_rfl) (fun V0 hV0 => ?_)
            refine anyR_val Later.pre 0 rfl (by kernel_rfl) (by kernel_rfl) (by kernel_rfl) (fun _ _ _ _ h => h) rfl ?_; apply Exists.intro; refine ⟨fun v1 hv1 => ?_, ?_⟩; (· (go_simp; rfl)); simp only [Act.put, List.setIfInBounds_toArray, List.set_cons_zero, List.set_cons_succ]
            refine anyR_val Later.pre 1 rfl (by kernel_rfl) (by kernel_rfl) (by kernel_rfl) (fun _ _ _ _ h => h) rfl ?_; apply Exists.intro; refine ⟨fun v1 hv1 => ?_, ?_⟩; (· (go_simp; rfl)); simp only [Act.put, List.setIfInBounds_toArray, List.set_cons_zero, List.set_cons_succ]
            refine anyR_val Later.pre 2 rfl (by kernel_rfl) (by kernel_rfl) (by kernel_rfl) (fun _ _ _ _ h => h) rfl ?_; apply Exists.intro; refine ⟨fun v1 hv1 => ?_, ?_⟩; (· (go_simp; rfl)); simp only [Act.put, List.setIfInBounds_toArray, List.set_cons_zero, List.set_cons_succ]
            refine anyR_valG Later.pre 3 rfl (by kernel_rfl) (by kernel_rfl) (by kernel_rfl) (fun _ _ _ _ h => h) (by rfl) ?_; apply Exists.intro; refine ⟨fun v1 hv1 => ?_, ?_⟩; (· (go_simp; rfl)); simp only [Act.put, List.setIfInBounds_toArray, List.set_cons_zero, List.set_cons_succ]
            refine anyR_valG Later.pre 4 rfl (by kernel_rfl) (by kernel_rfl) (by kernel_rfl) (fun _ _ _ _ h => h) (by rfl) ?_; apply Exists.intro; refine ⟨fun v1 hv1 => ?_, ?_⟩; (· (go_simp; rfl)); simp only [Act.put, List.setIfInBounds_toArray, List.set_cons_zero, List.set_cons_succ]
            refine anyR_val Later.pre 5 rfl (by kernel_rfl) (by kernel_rfl) (by kernel_rfl) (fun _ _ _ _ h => h) rfl ?_; apply Exists.intro; refine ⟨fun v1 hv1 => ?_, ?_⟩; (· (go_simp; rfl)); simp only [Act.put, List.setIfInBounds_toArray, List.set_cons_zero, List.set_cons_succ]
            refine anyR_val Later.pre 6 rfl (by kernel_rfl) (by kernel_rfl) (by kernel_rfl) (fun _ _ _ _ h => h) rfl ?_; apply Exists.intro; refine ⟨fun v1 hv1 => ?_, ?_⟩; (· (go_simp; rfl)); simp only [Act.put, List.setIfInBounds_toArray, List.set_cons_zero, List.set_cons_succ]
            refine anyR_valG Later.pre 7 rfl (by kernel_rfl) (by kernel_rfl) (by kernel_rfl) (fun _ _ _ _ h => h) (by rfl) ?_; apply Exists.intro; refine ⟨fun v1 hv1 => ?_, ?_⟩; (· (go_simp; rfl)); simp only [Act.put, List.setIfInBounds_toArray, List.set_cons_zero, List.set_cons_succ]
            refine anyR_valG Later.pre 8 rfl (by kernel_rfl) (by kernel_rfl) (by kernel_rfl) (fun _ _ _ _ h => h) (by rfl) ?_; apply Exists.intro; refine ⟨fun v1 hv1 => ?_, ?_⟩; (· (go_simp; rfl)); simp only [Act.put, List.setIfInBounds_toArray, List.set_cons_zero, List.set_cons_succ]
            refine anyR_val Later.pre 9 rfl (by kernel_rfl) (by kernel_rfl) (by kernel_rfl) (fun _ _ _ _ h => h) rfl ?_; apply Exists.intro; refine ⟨fun v1 hv1 => ?_, ?_⟩; (· (go_simp; rfl)); simp only [Act.put, List.setIfInBounds_toArray, List.set_cons_zero, List.set_cons_succ]
            refine anyR_val Later.pre 10 rfl (by kernel_rfl) (by kernel_rfl) (by kernel_rfl) (fun _ _ _ _ h => h) rfl ?_; apply Exists.intro; refine ⟨fun v1 hv1 => ?_, ?_⟩; (· (go_simp; rfl)); simp only [Act.put, List.setIfInBounds_toArray, List.set_cons_zero, List.set_cons_succ]
            refine anyR_skipG Later.pre 11 rfl (by kernel_rfl) (by kernel_rfl) (by kernel_rfl) (fun _ _ _ _ h => h) (by rfl) ?_; simp only [Act.put, List.setIfInBounds_toArray, List.set_cons_zero, List.set_cons_succ]
            refine anyR_skipG Later.pre 12 rfl (by kernel_rfl) (by kernel_rfl) (by kernel_rfl) (fun _ _ _ _ h => h) (by rfl) ?_; simp only [Act.put, List.setIfInBounds_toArray, List.set_cons_zero, List.set_cons_succ]
            refine anyR_skipG Later.pre 13 rfl (by kernel_rfl) (by kernel_rfl) (by kernel_rfl) (fun _ _ _ _ h => h) (by rfl) ?_; simp only [Act.put, List.setIfInBounds_toArray, List.set_cons_zero, List.set_cons_succ]
            refine anyR_skipG Later.pre 14 rfl (by kernel_rfl) (by kernel_rfl) (by kernel_rfl) (fun _ _ _ _ h => h) (by rfl) ?_; simp only [Act.put, List.setIfInBounds_toArray, List.set_cons_zero, List.set_cons_succ]
            refine anyR_skipG Later.pre 15 rfl (by kernel_rfl) (by kernel_rfl) (by kernel_rfl) (fun _ _ _ _ h => h) (by rfl) ?_; simp only [Act.put, List.setIfInBounds_toArray, List.set_cons_zero, List.set_cons_succ]
            refine anyR_skipG Later.pre 16 rfl (by kernel_rfl) (by kernel_rfl) (by kernel_rfl) (fun _ _ _ _ h => h) (by rfl) ?_; simp only [Act.put, List.setIfInBounds_toArray, List.set_cons_zero, List.set_cons_succ]
            refine anyR_skipG Later.pre 17 rfl (by kernel_rfl) (by kernel_rfl) (by kernel_rfl) (fun _ _ _ _ h => h) (by rfl) ?_; simp only [Act.put, List.setIfInBounds_toArray, List.set_cons_zero, List.set_cons_succ]
            refine anyR_skipG Later.pre 18 rfl (by kernel_rfl) (by kernel_rfl) (by kernel_rfl) (fun _ _ _ _ h => h) (by rfl) ?_; simp only [Act.put, List.setIfInBounds_toArray, List.set_cons_zero, List.set_cons_succ]
            refine anyR_skipG Later.pre 19 rfl (by kernel_rfl) (by kernel_rfl) (by kernel_rfl) (fun _ _ _ _ h => h) (by rfl) ?_; simp only [Act.put, List.setIfInBounds_toArray, List.set_cons_zero, List.set_cons_succ]
            refine anyR_skipG Later.pre 20 rfl (by kernel_rfl) (by kernel_rfl) (by kernel_rfl) (fun _ _ _ _ h => h) (by rfl) ?_; simp only [Act.put, List.setIfInBounds_toArray, List.set_cons_zero, List.set_cons_succ]
            refine anyR_skipG Later.pre 21 rfl (by kernel_rfl) (by kernel_rfl) (by kernel_rfl) (fun _ _ _ _ h => h) (by rfl) ?_; simp only [Act.put, List.setIfInBounds_toArray, List.set_cons_zero, List.set_cons_succ]
            refine anyR_val Later.pre 22 rfl (by kernel_rfl) (by kernel_rfl) (by kernel_rfl) (fun _ _ _ _ h => h) rfl ?_; apply Exists.intro; refine ⟨fun v1 hv1 => ?_, ?_⟩; (· (go_simp; rfl)); simp only [Act.put, List.setIfInBounds_toArray, List.set_cons_zero, List.set_cons_succ]
            refine anyR_done (by kernel_rfl) (fun V9 hV9 => ?_)
            have L9 := lr.trans (l9.trans (hV0.trans hV9))
            go_wp2_with fail
            go_roundw
            case rel => exact ⟨k + 1, by omega, by go_num, L9⟩
            case measure => simp [intOf]; omega
          | false =>
            obtain rfl : r1 = (x, y) := HOK.out rfl rfl rfl
            simp only [List.getElem?_cons_zero, List.getElem?_cons_succ] at d0 d1
            go_upto_region 9 with fail
            refine anyR_begin (R := Later) Later.pre Later.drew 23 rfl (by kernel_rfl) (fun V0 hV0 => ?_)
            have k6 : ∀ v, Later V0 v → ∀ j, v.cell? ⟨g6, j, none⟩ = #[.string st, .slice (some ⟨b, off, none⟩) rh.length vc, .slice xa rz.length xc][j]? := fun v hv => block_cell (later_keep (lr.trans (l9.trans (hV0.trans hv))) D6.out)
            have k5 : ∀ v, Later V0 v → ∀ j, v.cell? ⟨g5, j, none⟩ = #[.string st, .slice (some ⟨b2, off2, none⟩) hl.length c2, .slice ba zb.length bcp][j]? := fun v hv => block_cell (later_keep (lr.trans (l9.trans (hV0.trans hv))) D5'.out)
            have q0 : ∀ v, Later V0 v → v.cell? ⟨b, off + k * 2, none⟩ = some (.string x) := fun v hv => (l9.trans (hV0.trans hv)).cell d0
            have q1 : ∀ v, Later V0 v → v.cell? ⟨b, off + k * 2 + 1, none⟩ = some (.string y) := fun v hv => (l9.trans (hV0.trans hv)).cell d1
            have q2 : ∀ v, Later V0 v → v.cell? ⟨b2, off2 + k * 2, none⟩ = some (.string x) := fun v hv => (l9.trans (hV0.trans hv)).cell e0
            have q3 : ∀ v, Later V0 v → v.cell? ⟨b2, off2 + k * 2 + 1, none⟩ = some (.string y) := fun v hv => (l9.trans (hV0.trans hv)).cell e1
            refine anyR_val Later.pre 0 rfl (by kernel_rfl) (by kernel_rfl) (by kernel_rfl) (fun _ _ _ _ h => h) rfl ?_; apply Exists.intro; refine ⟨fun v1 hv1 => ?_, ?_⟩; (· (go_simp; rfl)); simp only [Act.put, List.setIfInBounds_toArray, List.set_cons_zero, List.set_cons_succ]
            refine anyR_val Later.pre 1 rfl (by kernel_rfl) (by kernel_rfl) (by kernel_rfl) (fun _ _ _ _ h => h) rfl ?_; apply Exists.intro; refine ⟨fun v1 hv1 => ?_, ?_⟩; (· (go_simp; rfl)); simp only [Act.put, List.setIfInBounds_toArray, List.set_cons_zero, List.set_cons_succ]
            refine anyR_val Later.pre 2 rfl (by kernel_rfl) (by kernel_rfl) (by kernel_rfl) (fun _ _ _ _ h => h) rfl ?_; apply Exists.intro; refine ⟨fun v1 hv1 => ?_, ?_⟩; (· (go_simp; rfl)); simp only [Act.put, List.setIfInBounds_toArray, List.set_cons_zero, List.set_cons_succ]
            refine anyR_valG Later.pre 3 rfl (by kernel_rfl) (by kernel_rfl) (by kernel_rfl) (fun _ _ _ _ h => h) (by rfl) ?_; apply Exists.intro; refine ⟨fun v1 hv1 => ?_, ?_⟩; (· (go_simp; rfl)); simp only [Act.put, List.setIfInBounds_toArray, List.set_cons_zero, List.set_cons_succ]
            refine anyR_valG Later.pre 4 rfl (by kernel_rfl) (by kernel_rfl) (by kernel_rfl) (fun _ _ _ _ h => h) (by rfl) ?_; apply Exists.intro; refine ⟨fun v1 hv1 => ?_, ?_⟩; (· (go_simp; rfl)); simp only [Act.put, List.setIfInBounds_toArray, List.set_cons_zero, List.set_cons_succ]
            refine anyR_val Later.pre 5 rfl (by kernel_rfl) (by kernel_rfl) (by kernel_rfl) (fun _ _ _ _ h => h) rfl ?_; apply Exists.intro; refine ⟨fun v1 hv1 => ?_, ?_⟩; (· (go_simp; rfl)); simp only [Act.put, List.setIfInBounds_toArray, List.set_cons_zero, List.set_cons_succ]
            refine anyR_val Later.pre 6 rfl (by kernel_rfl) (by kernel_rfl) (by kernel_rfl) (fun _ _ _ _ h => h) rfl ?_; apply Exists.intro; refine ⟨fun v1 hv1 => ?_, ?_⟩; (· (go_simp; rfl)); simp only [Act.put, List.setIfInBounds_toArray, List.set_cons_zero, List.set_cons_succ]
            refine anyR_valG Later.pre 7 rfl (by kernel_rfl) (by kernel_rfl) (by kernel_rfl) (fun _ _ _ _ h => h) (by rfl) ?_; apply Exists.intro; refine ⟨fun v1 hv1 => ?_, ?_⟩; (· (go_simp; rfl)); simp only [Act.put, List.setIfInBounds_toArray, List.set_cons_zero, List.set_cons_succ]
            refine anyR_valG Later.pre 8 rfl (by kernel_rfl) (by kernel_rfl) (by kernel_rfl) (fun _ _ _ _ h => h) (by rfl) ?_; apply Exists.intro; refine ⟨fun v1 hv1 => ?_, ?_⟩; (· (go_simp; rfl)); simp only [Act.put, List.setIfInBounds_toArray, List.set_cons_zero, List.set_cons_succ]
            refine anyR_val Later.pre 9 rfl (by kernel_rfl) (by kernel_rfl) (by kernel_rfl) (fun _ _ _ _ h => h) rfl ?_; apply Exists.intro; refine ⟨fun v1 hv1 => ?_, ?_⟩; (· (go_simp; rfl)); simp only [Act.put, List.setIfInBounds_toArray, List.set_cons_zero, List.set_cons_succ]
            refine anyR_val Later.pre 10 rfl (by kernel_rfl) (by kernel_rfl) (by kernel_rfl) (fun _ _ _ _ h => h) rfl ?_; apply Exists.intro; refine ⟨fun v1 hv1 => ?_, ?_⟩; (· (go_simp; rfl)); simp only [Act.put, List.setIfInBounds_toArray, List.set_cons_zero, List.set_cons_succ]
            refine anyR_valG Later.pre 11 rfl (by kernel_rfl) (by kernel_rfl) (by kernel_rfl) (fun _ _ _ _ h => h) (by rfl) ?_; apply Exists.intro; refine ⟨fun v1 hv1 => ?_, ?_⟩; (· (go_simp; rfl)); simp only [Act.put, List.setIfInBounds_toArray, List.set_cons_zero, List.set_cons_succ]
            refine anyR_valG Later.pre 12 rfl (by kernel_rfl) (by kernel_rfl) (by kernel_rfl) (fun _ _ _ _ h => h) (by rfl) ?_; apply Exists.intro; refine ⟨fun v1 hv1 => ?_, ?_⟩; (· (go_simp; rfl)); simp only [Act.put, List.setIfInBounds_toArray, List.set_cons_zero, List.set_cons_succ]
            refine anyR_valG Later.pre 13 rfl (by kernel_rfl) (by kernel_rfl) (by kernel_rfl) (fun _ _ _ _ h => h) (by rfl) ?_; apply Exists.intro; refine ⟨fun v1 hv1 => ?_, ?_⟩; (· (go_simp; rfl)); simp only [Act.put, List.setIfInBounds_toArray, List.set_cons_zero, List.set_cons_succ]
            refine anyR_valG Later.pre 14 rfl (by kernel_rfl) (by kernel_rfl) (by kernel_rfl) (fun _ _ _ _ h => h) (by rfl) ?_; apply Exists.intro; refine ⟨fun v1 hv1 => ?_, ?_⟩; (· (go_simp; rfl)); simp only [Act.put, List.setIfInBounds_toArray, List.set_cons_zero, List.set_cons_succ]
            refine anyR_valG Later.pre 15 rfl (by kernel_rfl) (by kernel_rfl) (by kernel_rfl) (fun _ _ _ _ h => h) (by rfl) ?_; apply Exists.intro; refine ⟨fun v1 hv1 => ?_, ?_⟩; (· (go_simp; rfl)); simp only [Act.put, List.setIfInBounds_toArray, List.set_cons_zero, List.set_cons_succ]
            refine anyR_valG Later.pre 16 rfl (by kernel_rfl) (by kernel_rfl) (by kernel_rfl) (fun _ _ _ _ h => h) (by rfl) ?_; apply Exists.intro; refine ⟨fun v1 hv1 => ?_, ?_⟩; (· (go_simp; rfl)); simp only [Act.put, List.setIfInBounds_toArray, List.set_cons_zero, List.set_cons_succ]
            refine anyR_valG Later.pre 17 rfl (by kernel_rfl) (by kernel_rfl) (by kernel_rfl) (fun _ _ _ _ h => h) (by rfl) ?_; apply Exists.intro; refine ⟨fun v1 hv1 => ?_, ?_⟩; (· (go_simp; rfl)); simp only [Act.put, List.setIfInBounds_toArray, List.set_cons_zero, List.set_cons_succ]
            refine anyR_valG Later.pre 18 rfl (by kernel_rfl) (by kernel_rfl) (by kernel_rfl) (fun _ _ _ _ h => h) (by rfl) ?_; apply Exists.intro; refine ⟨fun v1 hv1 => ?_, ?_⟩; (· (go_simp; rfl)); simp only [Act.put, List.setIfInBounds_toArray, List.set_cons_zero, List.set_cons_succ]
            refine anyR_valG Later.pre 19 rfl (by kernel_rfl) (by kernel_rfl) (by kernel_rfl) (fun _ _ _ _ h => h) (by rfl) ?_; apply Exists.intro; refine ⟨fun v1 hv1 => ?_, ?_⟩; (· (go_simp; rfl)); simp only [Act.put, List.setIfInBounds_toArray, List.set_cons_zero, List.set_cons_succ]
            refine anyR_valG Later.pre 20 rfl (by kernel_rfl) (by kernel_rfl) (by kernel_rfl) (fun _ _ _ _ h => h) (by rfl) ?_; apply Exists.intro; refine ⟨fun v1 hv1 => ?_, ?_⟩; (· (go_simp; rfl)); simp only [Act.put, List.setIfInBounds_toArray, List.set_cons_zero, List.set_cons_succ]
            refine anyR_valG Later.pre 21 rfl (by kernel_rfl) (by kernel_rfl) (by kernel_rfl) (fun _ _ _ _ h => h) (by rfl) ?_; apply Exists.intro; refine ⟨fun v1 hv1 => ?_, ?_⟩; (· (go_simp; rfl)); simp only [Act.put, List.setIfInBounds_toArray, List.set_cons_zero, List.set_cons_succ]
            refine anyR_val Later.pre 22 rfl (by kernel_rfl) (by kernel_rfl) (by kernel_rfl) (fun _ _ _ _ h => h) rfl ?_; apply Exists.intro; refine ⟨fun v1 hv1 => ?_, ?_⟩; (· (go_simp; rfl)); simp only [Act.put, List.setIfInBounds_toArray, List.set_cons_zero, List.set_cons_succ]
            clear k5 k6 q0 q1 q2 q3
            refine anyR_done (by kernel_rfl) (fun V9 hV9 => ?_)
            have L9 := lr.trans (l9.trans (hV0.trans hV9))
            go_wp2_with fail
            go_roundw
            case rel => exact ⟨k + 1, by omega, by go_num, L9⟩
            case measure => simp [intOf]; omega
    · obtain rfl : k = rh.length := by omega
      have hnl : ¬ ((rh.length : Nat) : Int) < (rh.length : Int) := by omega
      have E1 := hide (later_keep lr D1'.out)
      have E5 := hide (later_keep lr D5'.out)
      have K9 := K4.trans lr
      have k1 := block_cell E1.out
      have la := later_allocR wr (.cells #[.int .u32 h, .int .u32 t, .int .u16 p, .int .u16 q, .slice ma ml.length mc] 30)
      have E9 := hide (heap_alloc_new wr (.cells #[.int .u32 h, .int .u32 t, .int .u16 p, .int .u16 q, .slice ma ml.length mc] 30))
      go_upto_region 12 with fail
      clear k1 k6
      have F1 := hide (later_keep la E1.out)
      have F5 := hide (later_keep la E5.out)
      have KA : Later w0 (wr.alloc (.cells #[.int .u32 h, .int .u32 t, .int .u16 p, .int .u16 q, .slice ma ml.length mc] 30)) := K9.trans la
      have hs0 : w0.heap.size ≤ wr.heap.size := K9.size
      have hg1 := (Array.getElem?_eq_some_iff.1 E1.out).1
      have hg5 := (Array.getElem?_eq_some_iff.1 E5.out).1
      change Code.wp _ _ _ _ (wr.alloc (.cells #[.int .u32 h, .int .u32 t, .int .u16 p, .int .u16 q, .slice ma ml.length mc] 30))
      generalize wr.alloc (.cells #[.int .u32 h, .int .u32 t, .int .u16 p, .int .u16 q, .slice ma ml.length mc] 30) = wA at *
      generalize wr.heap.size = g9 at *
      have kA := block_cell E9.out
      have fA := block_frozen E9.out
      go_upto_region 13 with fail
      clear kA fA
      have G9 := heap_set1 (heap_set1 E9.out 0 (.int .u32 4278124286)) 4 (.slice none 0 0)
      have G1 := hsetS_ne (m := g9) (j := 4) (v := .slice none 0 0) (hsetS_ne (m := g9) (j := 0) (v := .int .u32 4278124286) F1.out (by omega)) (by omega)
      have G5 := hsetS_ne (m := g9) (j := 4) (v := .slice none 0 0) (hsetS_ne (m := g9) (j := 0) (v := .int .u32 4278124286) F5.out (by omega)) (by omega)
      have hb9 : But (fun b => b = g9) wA ((wA.setCell ⟨g9, 0, none⟩ (.int .u32 4278124286)).setCell ⟨g9, 4, none⟩ (.slice none 0 0)) := But.setCell (E := fun b => b = g9) (But.setCell (E := fun b => b = g9) (But.refl _ _) (p := ⟨g9, 0, none⟩) rfl _) (p := ⟨g9, 4, none⟩) rfl _
      have KS : Later w0 ((wA.setCell ⟨g9, 0, none⟩ (.int .u32 4278124286)).setCell ⟨g9, 4, none⟩ (.slice none 0 0)) := Below.trans KA (hb9.below KA.size (fun k h e => by omega))
      have H9 : Hid (((wA.setCell ⟨g9, 0, none⟩ (.int .u32 4278124286)).setCell ⟨g9, 4, none⟩ (.slice none 0 0)).heap[g9]? = some (.cells #[.int .u32 4278124286, .int .u32 t, .int .u16 p, .int .u16 q, .slice none 0 0] 30 (0, 0))) := G9
      have H1 := hide G1
      have H5 := hide G5
      clear G9 G1 G5 hb9 E9 F1 F5 E1 E5
      generalize (wA.setCell ⟨g9, 0, none⟩ (.int .u32 4278124286)).setCell ⟨g9, 4, none⟩ (.slice none 0 0) = wS at *
      have LS : Later w wS := Later.trans hb4 KS
      have k9 := block_cell H9.out
      have k1 := block_cell H1.out
      by_cases hho : h = 4278124286
      · subst hho
        go_wp2_with fail
        refine (HL.out wS LS).mono ?_
        rintro e wT ⟨rfl, lT⟩
        go_wp2_with fail
        go_ret
        exact ⟨rfl, LS.trans lT⟩
      have hhb : (h == 4278124286) = false := by simpa using hho
      clear hho
      go_upto_region 16 with fail
      clear k1 k9 hhb
      go_loopw [10] (fun iv wr => ∃ k : Nat, k ≤ hl.length ∧ iv = .int .i64 (k : Int) ∧ Later wS wr ∧ Hid (∀ j (hj : j < hl.length), j < k → ¬ HasH hl[j].2)) (fun iv _ => hl.length - (intOf iv).toNat)
      case atStart => exact ⟨0, by omega, rfl, Later.refl _, fun j hj h => by omega⟩
      case round =>
        obtain ⟨k, hk, rfl, lr2, HNH⟩ := hrel
        have k5 := block_cell (later_keep lr2 H5.out)
        by_cases hlt : k < hl.length
        · have hlt' : (k : Int) < (hl.length : Int) := by omega
          obtain ⟨b2, off2, cp2, e, _, _, hbn2, hcs2⟩ := (HIA.out _ (KS.trans lr2)).cells (by omega)
          obtain ⟨rfl, rfl⟩ : a2 = some ⟨b2, off2, none⟩ ∧ c2 = cp2 := by injection e with h1 h2 h3; exact ⟨h1, h3⟩
          clear e
          have e1 := hcs2 k hlt 1 (by omega)
          have hxs := (HZO.out hl[k] (List.getElem_mem hlt)).2
          have HNX : Hid (hasB hl[k].2 = false → ∀ j (hj : j < hl.length), j < k + 1 → ¬ HasH hl[j].2) := fun hf j hj h => by
            rcases Nat.lt_or_eq_of_le (Nat.lt_succ_iff.1 h) with h | rfl
            · exact HNH.out j hj h
            · exact hasB_no hf
          clear hcs2
          generalize hl[k] = r2 at *
          obtain ⟨x, y⟩ := r2
          simp only [hrc, List.getElem?_cons_zero, List.getElem?_cons_succ] at e1 hxs HNX
          have HHS := hide (lhas_any y wr hxs)
          go_wp2_with fail
          refine HHS.out.mono ?_
          generalize hasB y = bh at *
          rintro e wT ⟨rfl, lT⟩
          clear k5
          cases bh with
          | true =>
            go_wp2_with fail
            refine (HL.out wT (LS.trans (lr2.trans lT))).mono ?_
            rintro e wU ⟨rfl, lU⟩
            go_wp2_with fail
            go_ret
            exact ⟨rfl, LS.trans (lr2.trans (lT.trans lU))⟩
          | false =>
            have HNY := hide (HNX.out rfl)
            clear HNX
            go_wp2_with fail
            go_roundw
            case rel => exact ⟨k + 1, by omega, by go_num, lr2.trans lT, HNY⟩
            case measure => simp [intOf]; omega
        · obtain rfl : k = hl.length := by omega
          have hnl2 : ¬ ((hl.length : Nat) : Int) < (hl.length : Int) := by omega
          have HNA : Hid (∀ o ∈ hl, ¬ HasH o.2) := fun o ho => by
            obtain ⟨j, hj, rfl⟩ := List.getElem_of_mem ho
            exact HNH.out j hj hj
          go_upto_region 20 with fail
          clear k5
          refine anyR_begin (R := Later) Later.pre Later.drew 15 rfl (by kernel_rfl) (fun V0 hV0 => ?_)
          have MV := lr2.trans hV0
          have LV : Later w V0 := LS.trans MV
          have k5 : ∀ v, Later V0 v → ∀ j, v.cell? ⟨g5, j, none⟩ = #[.string st, .slice a2 hl.length c2, .slice ba zb.length bcp][j]? := fun v hv => block_cell (later_keep (MV.trans hv) H5.out)
          have k9 : ∀ v, Later V0 v → ∀ j, v.cell? ⟨g9, j, none⟩ = #[.int .u32 4278124286, .int .u32 t, .int .u16 p, .int .u16 q, .slice none 0 0][j]? := fun v hv => block_cell (later_keep (MV.trans hv) H9.out)
          have cv : ∀ u, Later V0 u → (convert 23 9 (.slice ba zb.length bcp)).run Tryd.prog u = .ok (.string (strOfNums zb)) u := fun u hu => conv_rd 23 9 5 Tryd.underlying23 Tryd.underlying5 Tryd.underlying9 (HBB.out u (LV.trans hu))
          have hzs : (strOfNums zb).size ≤ 140737488355328 := by rw [strOfNums_size]; omega
          have HHB := hide (fun u => lhas_any (strOfNums zb) u hzs)
          have HBN : Hid (hasB (strOfNums zb) = false → rwHs (cgOf 4278124286 t p q []) st hl zb = hl ∧ rwZb (cgOf 4278124286 t p q []) st hl zb = zb) := fun hf => HRO.out (hasB_no hf) HNA.out
          generalize hasB (strOfNums zb) = bh at *
          generalize strOfNums zb = zs at *
          refine anyR_take Later.pre 0 (.bool true) rfl (by kernel_rfl) (by kernel_rfl) (by kernel_rfl) (fun _ _ _ h => h) rfl (fun u hu => goes_call 9 #[] (by go_simp) (HL.out u (LV.trans hu))) ?_
          simp only [Act.put, List.setIfInBounds_toArray, List.set_cons_zero, List.set_cons_succ]
          refine anyR_val Later.pre 1 rfl (by kernel_rfl) (by kernel_rfl) (by kernel_rfl) (fun _ _ _ _ h => h) rfl ?_; apply Exists.intro; refine ⟨fun v1 hv1 => ?_, ?_⟩; (· (go_simp; rfl)); simp only [Act.put, List.setIfInBounds_toArray, List.set_cons_zero, List.set_cons_succ]
          refine anyR_valG Later.pre 2 rfl (by kernel_rfl) (by kernel_rfl) (by kernel_rfl) (fun _ _ _ _ h => h) (by rfl) ?_; apply Exists.intro; refine ⟨fun v1 hv1 => ?_, ?_⟩; (· (go_simp; rfl)); simp only [Act.put, List.setIfInBounds_toArray, List.set_cons_zero, List.set_cons_succ]
          refine anyR_valG Later.pre 3 rfl (by kernel_rfl) (by kernel_rfl) (by kernel_rfl) (fun _ _ _ _ h => h) (by rfl) ?_; apply Exists.intro; refine ⟨fun v1 hv1 => ?_, ?_⟩; (· (go_simp; rfl)); simp only [Act.put, List.setIfInBounds_toArray, List.set_cons_zero, List.set_cons_succ]
          refine anyR_valG Later.pre 4 rfl (by kernel_rfl) (by kernel_rfl) (by kernel_rfl) (fun _ _ _ _ h => h) (by rfl) ?_; apply Exists.intro; refine ⟨fun v1 hv1 => ?_, ?_⟩; (· (go_simp; rfl)); simp only [Act.put, List.setIfInBounds_toArray, List.set_cons_zero, List.set_cons_succ]
          clear cv
          refine anyR_takeG Later.pre 5 (.bool bh) rfl (by kernel_rfl) (by kernel_rfl) (by kernel_rfl) (fun _ _ _ h => h) (by rfl) (fun u hu => goes_call 16 #[.string zs] (by go_simp) (HHB.out u)) ?_
          simp only [Act.put, List.setIfInBounds_toArray, List.set_cons_zero, List.set_cons_succ]
          cases bh with
          | true =>
            refine anyR_valG Later.pre 6 rfl (by kernel_rfl) (by kernel_rfl) (by kernel_rfl) (fun _ _ _ _ h => h) (by rfl) ?_; apply Exists.intro; refine ⟨fun v1 hv1 => ?_, ?_⟩; (· (go_simp; rfl)); simp only [Act.put, List.setIfInBounds_toArray, List.set_cons_zero, List.set_cons_succ]
            refine anyR_skipG Later.pre 7 rfl (by kernel_rfl) (by kernel_rfl) (by kernel_rfl) (fun _ _ _ _ h => h) (by rfl) ?_; simp only [Act.put, List.setIfInBounds_toArray, List.set_cons_zero, List.set_cons_succ]
            refine anyR_skipG Later.pre 8 rfl (by kernel_rfl) (by kernel_rfl) (by kernel_rfl) (fun _ _ _ _ h => h) (by rfl) ?_; simp only [Act.put, List.setIfInBounds_toArray, List.set_cons_zero, List.set_cons_succ]
            refine anyR_skipG Later.pre 9 rfl (by kernel_rfl) (by kernel_rfl) (by kernel_rfl) (fun _ _ _ _ h => h) (by rfl) ?_; simp only [Act.put, List.setIfInBounds_toArray, List.set_cons_zero, List.set_cons_succ]
            refine anyR_skipG Later.pre 10 rfl (by kernel_rfl) (by kernel_rfl) (by kernel_rfl) (fun _ _ _ _ h => h) (by rfl) ?_; simp only [Act.put, List.setIfInBounds_toArray, List.set_cons_zero, List.set_cons_succ]
            refine anyR_skipG Later.pre 11 rfl (by kernel_rfl) (by kernel_rfl) (by kernel_rfl) (fun _ _ _ _ h => h) (by rfl) ?_; simp only [Act.put, List.setIfInBounds_toArray, List.set_cons_zero, List.set_cons_succ]
            refine anyR_valG Later.pre 12 rfl (by kernel_rfl) (by kernel_rfl) (by kernel_rfl) (fun _ _ _ _ h => h) (by rfl) ?_; apply Exists.intro; refine ⟨fun v1 hv1 => ?_, ?_⟩; (· (go_simp; rfl)); simp only [Act.put, List.setIfInBounds_toArray, List.set_cons_zero, List.set_cons_succ]
            refine anyR_val Later.pre 13 rfl (by kernel_rfl) (by kernel_rfl) (by kernel_rfl) (fun _ _ _ _ h => h) rfl ?_; apply Exists.intro; refine ⟨fun v1 hv1 => ?_, ?_⟩; (· (go_simp; rfl)); simp only [Act.put, List.setIfInBounds_toArray, List.set_cons_zero, List.set_cons_succ]
            refine anyR_val Later.pre 14 rfl (by kernel_rfl) (by kernel_rfl) (by kernel_rfl) (fun _ _ _ _ h => h) rfl ?_; apply Exists.intro; refine ⟨fun v1 hv1 => ?_, ?_⟩; (· (go_simp; rfl)); simp only [Act.put, List.setIfInBounds_toArray, List.set_cons_zero, List.set_cons_succ]
            clear k5 k9
            refine anyR_done (by kernel_rfl) (fun V9 hV9 => ?_)
            have L9 : Later w V9 := LV.trans hV9
            go_wp2_with fail
            go_ret
            exact ⟨rfl, L9⟩
          | false =>
            obtain ⟨hr1, hr2⟩ := HBN.out rfl
            rw [hr1, hr2] at HRW2
            clear hr1 hr2 HBN
            refine anyR_valG Later.pre 6 rfl (by kernel_rfl) (by kernel_rfl) (by kernel_rfl) (fun _ _ _ _ h => h) (by rfl) ?_; apply Exists.intro; refine ⟨fun v1 hv1 => ?_, ?_⟩; (· (go_simp; rfl)); simp only [Act.put, List.setIfInBounds_toArray, List.set_cons_zero, List.set_cons_succ]
            refine anyR_valG Later.pre 7 rfl (by kernel_rfl) (by kernel_rfl) (by kernel_rfl) (fun _ _ _ _ h => h) (by rfl) ?_; apply Exists.intro; refine ⟨fun v1 hv1 => ?_, ?_⟩; (· (go_simp; rfl)); simp only [Act.put, List.setIfInBounds_toArray, List.set_cons_zero, List.set_cons_succ]
            refine anyR_valG Later.pre 8 rfl (by kernel_rfl) (by kernel_rfl) (by kernel_rfl) (fun _ _ _ _ h => h) (by rfl) ?_; apply Exists.intro; refine ⟨fun v1 hv1 => ?_, ?_⟩; (· (go_simp; rfl)); simp only [Act.put, List.setIfInBounds_toArray, List.set_cons_zero, List.set_cons_succ]
            refine anyR_valG Later.pre 10 rfl (by kernel_rfl) (by kernel_rfl) (by kernel_rfl) (fun _ _ _ _ h => h) (by rfl) ?_; apply Exists.intro; refine ⟨fun v1 hv1 => ?_, ?_⟩; (· (go_simp; rfl)); simp only [Act.put, List.setIfInBounds_toArray, List.set_cons_zero, List.set_cons_succ]
            clear k5 k9
            have HI0 := hide (fun u (l : Later V0 u) => HIA.out u (KS.trans (MV.trans l)))
            refine anyR_oneG 9 rfl (by kernel_rfl) (by rfl) (fun V1 hV1 => ?_)
            refine wp_enter 8 #[.agg #[.string st, .slice a2 hl.length c2, .slice ba zb.length bcp], .agg #[.int .u32 4278124286, .int .u32 t, .int .u16 p, .int .u16 q, .slice none 0 0]] (by go_simp) ((HRW2.out V1 _ (LV.trans hV1) (HI0.out V1 hV1)).mono ?_)
            rintro e V2 ⟨m2, vh2, vb2, rfl, hrow2, hO2⟩
            obtain ⟨va2, vc2, rfl⟩ := owns_form hrow2
            obtain ⟨xa2, xc2, rfl, _, _⟩ := hO2.slice
            refine ⟨m2, ?_⟩
            simp only [Act.put, List.setIfInBounds_toArray, List.set_cons_zero, List.set_cons_succ]
            have HA2 := hide (ownM_rd hrow2)
            have HB2' := hide hO2.rd
            clear hrow2 hO2
            have M2 : Hid (Later V0 V2) := hV1.trans m2
            refine anyR_takeG Later.pre 11 (.bool true) rfl (by kernel_rfl) (by kernel_rfl) (by kernel_rfl) (fun _ _ _ h => h) (by rfl) (fun u hu => goes_call 17 #[.agg #[.string st, .slice va2 hl.length vc2, .slice xa2 zb.length xc2], .agg #[.string st, .slice a2 hl.length c2, .slice ba zb.length bcp]] (by go_simp) ((same14_any st st _ _ _ _ hl hl zb zb u (HA2.out.later hu) (HI0.out u (M2.out.trans hu)) (HB2'.out.later hu) (HBB.out u (LV.trans (M2.out.trans hu))) hy hy).mono fun e w' h => (by rw [smM_self] at h; exact h))) ?_
            simp only [Act.put, List.setIfInBounds_toArray, List.set_cons_zero, List.set_cons_succ]
            refine anyR_valG Later.pre 12 rfl (by kernel_rfl) (by kernel_rfl) (by kernel_rfl) (fun _ _ _ _ h => h) (by rfl) ?_; apply Exists.intro; refine ⟨fun v1 hv1 => ?_, ?_⟩; (· (go_simp; rfl)); simp only [Act.put, List.setIfInBounds_toArray, List.set_cons_zero, List.set_cons_succ]
            refine anyR_val Later.pre 13 rfl (by kernel_rfl) (by kernel_rfl) (by kernel_rfl) (fun _ _ _ _ h => h) rfl ?_; apply Exists.intro; refine ⟨fun v1 hv1 => ?_, ?_⟩; (· (go_simp; rfl)); simp only [Act.put, List.setIfInBounds_toArray, List.set_cons_zero, List.set_cons_succ]
            refine anyR_val Later.pre 14 rfl (by kernel_rfl) (by kernel_rfl) (by kernel_rfl) (fun _ _ _ _ h => h) rfl ?_; apply Exists.intro; refine ⟨fun v1 hv1 => ?_, ?_⟩; (· (go_simp; rfl)); simp only [Act.put, List.setIfInBounds_toArray, List.set_cons_zero, List.set_cons_succ]
            refine anyR_done (by kernel_rfl) (fun V9 hV9 => ?_)
            have L9 : Later w V9 := LV.trans (M2.out.trans hV9)
            go_wp2_with fail
            go_ret
            exact ⟨rfl, L9⟩
end Go.Proofs.YtifdocjagnhncabDoor
