/- Several texts in one. -/
import Derived.Test.YtehdgndbloaljaaDoorX2
import Derived.Test.YtehdgndbloaljaaDoorVS
import Derived.Lib.ConvBytes
import Derived.OwnWalk
import Derived.Test.YtehdgndbloaljaaDoorX3
import Derived.Deep.Cut
/- The document's cut: a line, and what is behind its end. -/
namespace Go.Proofs.YtehdgndbloaljaaDoor
open Go.RowKit Go.Shelf
set_option maxRecDepth 100000
set_option linter.unusedVariables false
set_option linter.unusedSimpArgs false

/-- What the document's cut tells. -/
def RcQ (n₀ : Nat) (s : ByteArray) (W : World) (v : Value) : Prop :=
  (cutF s crB = true ∧ ∃ vb, v = .tuple #[.string (cutA s crB), vb, .bool true] ∧ Rd n₀ W vb (nmsB (cutZ s crB))) ∨
  (cutF s crB = false ∧ v = .tuple #[.string ⟨#[]⟩, .slice none 0 0, .bool false])
theorem str_take (zb : List Int) (i : Nat) (hi : i ≤ zb.length) : (strOfNums zb).extract 0 i = strOfNums (zb.take i) := by
  apply ba_ext
  rw [ba_ext_list, strOfNums_data, strOfNums_data, List.drop_zero, List.map_take]
theorem str_drop (zb : List Int) (i : Nat) : (strOfNums zb).extract i (strOfNums zb).size = strOfNums (zb.drop i) := by
  apply ba_ext
  rw [ba_ext_list, strOfNums_data, strOfNums_data, strOfNums_size, ← List.map_take, List.take_length, List.map_drop]
theorem by_drop {zb : List Int} (hy : Mt.By zb) (i : Nat) : Mt.By (zb.drop i) := fun z hz => hy z (List.mem_of_mem_drop hz)

set_option maxRecDepth 100000 in
set_option maxHeartbeats 8000000 in
theorem rcut_any (n₀ : Nat) (sb : Value) (zb : List Int) (w : World) (hn₀ : n₀ ≤ w.heap.size) (hB : Rd n₀ w sb zb) (hy : Mt.By zb) (hz : zb.length ≤ 1000000) :
    Calls Tryd.prog 21 #[sb] w fun e w' => Later w w' ∧ ∃ v, e = .returned v ∧ RcQ n₀ (strOfNums zb) w' v := by
  obtain ⟨ba, cp, rfl, hc1, hc2⟩ := hB.slice
  have hss : (strOfNums zb).size = zb.length := strOfNums_size zb
  go_enter Tryd.func21, Tryd.ntmps21
  go_upto_region 2 with fail
  go_loopw [5] (fun iv wr => ∃ i : Nat, i ≤ zb.length ∧ iv = .int .i64 (i : Int) ∧ wr = w ∧ Hid (No2 (strOfNums zb) 13 10 i)) (fun iv _ => zb.length - (intOf iv).toNat)
  case atStart => exact ⟨0, by omega, rfl, rfl, fun j hj => by omega⟩
  case round =>
    obtain ⟨i, hi, rfl, rfl, HN⟩ := hrel
    by_cases hlt : i + 1 < zb.length
    · have hlt' : (i : Int) + 1 < (zb.length : Int) := by omega
      have hb0 := strOf_at zb hy i (by omega)
      have hb1 := strOf_at zb hy (i + 1) hlt
      have hB' := hB
      rcases hB with ⟨_, _, _, rfl, _⟩ | ⟨b, off, cap, e, hne, hl, hm, hbn, hc⟩
      · simp at hlt
      cases e
      have d0 : wr.cell? ⟨b, off + i, none⟩ = some (.int .u8 (zb[i]?.getD 0)) := by rw [hc i (by omega), List.getElem?_eq_getElem (by omega)]
      have d1 : wr.cell? ⟨b, off + (i + 1), none⟩ = some (.int .u8 (zb[i + 1]?.getD 0)) := by rw [hc (i + 1) hlt, List.getElem?_eq_getElem hlt]
      generalize zb[i]?.getD 0 = x0 at *
      generalize zb[i + 1]?.getD 0 = x1 at *
      have HC : Hid (x0 = 13 → x1 = 10 → cutF (strOfNums zb) crB = true ∧ cutA (strOfNums zb) crB = strOfNums (zb.take i) ∧ cutZ (strOfNums zb) crB = strOfNums (zb.drop (i + 2))) := fun h0 h1 => by
        have := cut2_yes (s := strOfNums zb) (a := 13) (b := 10) (i := i) (by omega) (by rw [hb0, h0]; rfl) (by rw [hb1, h1]; rfl) HN.out
        rw [str_take zb i (by omega), str_drop] at this
        exact this
      have HS : Hid (¬ (x0 = 13 ∧ x1 = 10) → No2 (strOfNums zb) 13 10 (i + 1)) := fun h => HN.out.succ (by rw [hb0, hb1]; exact h)
      clear hb0 hb1 hc HN
      by_cases h0 : x0 = 13
      · by_cases h1 : x1 = 10
        · have HCC := hide (HC.out h0 h1)
          have HT := hide (hB'.take i (by omega))
          have HD := hide (Rd.drop (i + 2) (by omega) hB')
          have hby := hide (by_drop hy (i + 2))
          subst h0 h1
          clear HC HS
          have hcp1 : (i : Int) ≤ (cp : Int) := by omega
          have hcp2 : (i : Int) + 2 ≤ (zb.length : Int) := by omega
          have hcp3 : (cp : Int) ≤ 9223372036854775807 := by omega
          have hkw : Hid (IntKind.i64.wrap ((i : Int) + 2) = ((i + 2 : Nat) : Int)) := by (show _ = _); rw [IntKind.wrap_i64]; omega
          have hk2 : i + 2 ≤ zb.length := by omega
          generalize hkk : i + 2 = kk at *
          clear hkk
          have hk3 : (kk : Int) ≤ (zb.length : Int) := by omega
          have hk4 : (kk : Int) ≤ 9223372036854775807 := by omega
          go_upto_region 5 with fail
          clear d0 d1
          have hcv := fun W (l : Later wr W) => conv_rd 22 9 5 Tryd.underlying22 Tryd.underlying5 Tryd.underlying9 (HT.out.below (l.mono hn₀))
          refine anyR_begin (R := Later) Later.pre Later.drew 11 rfl (by kernel_rfl) (fun V0 hV0 => ?_)
          have qcv : ∀ v, Later V0 v → (convert 22 9 (.slice (some ⟨b, off, none⟩) i cp)).run Tryd.prog v = .ok (.string (strOfNums (zb.take i))) v := fun v hv => hcv v (hV0.trans hv)
          clear hcv
          refine anyR_val Later.pre 0 rfl (by kernel_rfl) (by kernel_rfl) (by kernel_rfl) (fun _ _ _ _ h => h) rfl ?_; apply Exists.intro; refine ⟨fun v1 hv1 => ?_, ?_⟩; (· (go_simp; rfl)); simp only [Act.put, List.setIfInBounds_toArray, List.set_cons_zero, List.set_cons_succ]
          refine anyR_val Later.pre 1 rfl (by kernel_rfl) (by kernel_rfl) (by kernel_rfl) (fun _ _ _ _ h => h) rfl ?_; apply Exists.intro; refine ⟨fun v1 hv1 => ?_, ?_⟩; (· (go_simp; rfl)); simp only [Act.put, List.setIfInBounds_toArray, List.set_cons_zero, List.set_cons_succ]
          refine anyR_val Later.pre 2 rfl (by kernel_rfl) (by kernel_rfl) (by kernel_rfl) (fun _ _ _ _ h => h) rfl ?_; apply Exists.intro; refine ⟨fun v1 hv1 => ?_, ?_⟩; (· (go_simp; rfl)); simp only [Act.put, List.setIfInBounds_toArray, List.set_cons_zero, List.set_cons_succ]
          refine anyR_val Later.pre 3 rfl (by kernel_rfl) (by kernel_rfl) (by kernel_rfl) (fun _ _ _ _ h => h) rfl ?_; apply Exists.intro; refine ⟨fun v1 hv1 => ?_, ?_⟩; (· (go_simp; rfl)); simp only [Act.put, List.setIfInBounds_toArray, List.set_cons_zero, List.set_cons_succ]
          refine anyR_val Later.pre 4 rfl (by kernel_rfl) (by kernel_rfl) (by kernel_rfl) (fun _ _ _ _ h => h) rfl ?_; apply Exists.intro; refine ⟨fun v1 hv1 => ?_, ?_⟩; (· (go_simp; rfl)); simp only [Act.put, List.setIfInBounds_toArray, List.set_cons_zero, List.set_cons_succ]
          refine anyR_val Later.pre 5 rfl (by kernel_rfl) (by kernel_rfl) (by kernel_rfl) (fun _ _ _ _ h => h) rfl ?_; apply Exists.intro; refine ⟨fun v1 hv1 => ?_, ?_⟩; (· (go_simp; rfl)); simp only [Act.put, List.setIfInBounds_toArray, List.set_cons_zero, List.set_cons_succ]
          refine anyR_val Later.pre 6 rfl (by kernel_rfl) (by kernel_rfl) (by kernel_rfl) (fun _ _ _ _ h => h) rfl ⟨.int .i64 (kk : Int), fun v1 hv1 => (by go_simp; exact hkw.out), ?_⟩
          simp only [Act.put, List.setIfInBounds_toArray, List.set_cons_zero, List.set_cons_succ]
          refine anyR_val Later.pre 7 rfl (by kernel_rfl) (by kernel_rfl) (by kernel_rfl) (fun _ _ _ _ h => h) rfl ⟨sliced (some ⟨b, off, none⟩) kk zb.length cp 1, fun v1 hv1 => (by go_simp; all_goals first | rfl | (intro _; omega) | omega), ?_⟩
          simp only [Act.put, List.setIfInBounds_toArray, List.set_cons_zero, List.set_cons_succ]
          generalize sliced (some ⟨b, off, none⟩) kk zb.length cp 1 = vv at *
          obtain ⟨a9, c9, rfl, _, _⟩ := HD.out.slice
          generalize hn9 : (zb.drop kk).length = n9 at *
          clear hn9
          refine anyR_val Later.pre 8 rfl (by kernel_rfl) (by kernel_rfl) (by kernel_rfl) (fun _ _ _ _ h => h) rfl ?_; apply Exists.intro; refine ⟨fun v1 hv1 => ?_, ?_⟩; (· (go_simp; rfl)); simp only [Act.put, List.setIfInBounds_toArray, List.set_cons_zero, List.set_cons_succ]
          refine anyR_val Later.pre 9 rfl (by kernel_rfl) (by kernel_rfl) (by kernel_rfl) (fun _ _ _ _ h => h) rfl ?_; apply Exists.intro; refine ⟨fun v1 hv1 => ?_, ?_⟩; (· (go_simp; rfl)); simp only [Act.put, List.setIfInBounds_toArray, List.set_cons_zero, List.set_cons_succ]
          refine anyR_val Later.pre 10 rfl (by kernel_rfl) (by kernel_rfl) (by kernel_rfl) (fun _ _ _ _ h => h) rfl ?_; apply Exists.intro; refine ⟨fun v1 hv1 => ?_, ?_⟩; (· (go_simp; rfl)); simp only [Act.put, List.setIfInBounds_toArray, List.set_cons_zero, List.set_cons_succ]
          refine anyR_done (by kernel_rfl) (fun V9 hV9 => ?_)
          have RD := hide (HD.out.below ((hV0.trans hV9).mono hn₀))
          clear qcv HD
          go_wp2_with fail
          exact bodyPost_ret (v := .tuple #[.string (strOfNums (zb.take i)), .slice a9 n9 c9, .bool true]) (by simp [results, Tryd.results21, go_sem]) rfl ⟨hV0.trans hV9, _, rfl, .inl ⟨HCC.out.1, _, by rw [HCC.out.2.1], by rw [HCC.out.2.2, nmsB_str _ hby.out]; exact RD.out⟩⟩
        · have HSS := hide (HS.out (fun h => h1 h.2))
          have t1 : (x1 == 10) = false := by simp [h1]
          subst h0
          clear HC HS h1
          go_wp2_with fail
          go_roundw
          case rel => exact ⟨i + 1, by omega, by go_num, by first | trivial | rfl, HSS⟩
          case measure => simp [intOf]; omega
      · have HSS := hide (HS.out (fun h => h0 h.1))
        have t0 : (x0 == 13) = false := by simp [h0]
        clear HC HS h0
        go_wp2_with fail
        go_roundw
        case rel => exact ⟨i + 1, by omega, by go_num, by first | trivial | rfl, HSS⟩
        case measure => simp [intOf]; omega
    · have hnl : ¬ (i : Int) + 1 < (zb.length : Int) := by omega
      have HCN := hide (cut2_no (s := strOfNums zb) (a := 13) (b := 10) (i := i) (by omega) HN.out)
      go_wp2_with fail
      exact bodyPost_ret (v := .tuple #[.string ⟨#[]⟩, .slice none 0 0, .bool false]) (by simp [results, Tryd.results21, go_sem]) rfl ⟨Later.refl _, _, rfl, .inr ⟨HCN.out, rfl⟩⟩
end Go.Proofs.YtehdgndbloaljaaDoor

/- A line that names a port, as the document reads it: mathematics. -/
namespace Go.Proofs.YtehdgndbloaljaaDoor
open Go.RowKit Go.Shelf
set_option maxRecDepth 100000
set_option linter.unusedVariables false
set_option linter.unusedSimpArgs false

theorem bAt_L (l : ByteArray) (j : Nat) (h : j < l.data.toList.length) : bAt l j = ((l.data.toList[j]).toNat : Int) := by
  have h' : j < l.size := by rw [ba_len]; exact h
  exact (bAt_of l j (l.data.toList[j]) h').1 (List.getElem?_eq_getElem h)
theorem cut_empty {s p : ByteArray} (hs : s.size = 0) (hp : p.size ≠ 0) : cutF s p = false := by
  cases hf : cutF s p with
  | false => rfl
  | true =>
    have := congrArg ByteArray.size (cut_yes hf)
    rw [ByteArray.size_append, ByteArray.size_append] at this
    omega
theorem prV_digits {s : ByteArray} {p : Int} (h : prV s = some p) : ∀ u ∈ s.data.toList, dgt (u.toNat : Int) = true := fun u hu => by
  unfold prV at h
  cases hn : numV s 65535 with
  | none => rw [hn] at h; cases h
  | some v =>
    have h1 := (numV_some hn).1
    have hm : (u.toNat : Int) ∈ nmsB s := by unfold nmsB; exact List.mem_map.2 ⟨u, hu, rfl⟩
    rw [h1] at hm
    exact dg_dgt _ _ hm
theorem sp_no_lt {R : List UInt8} (hR : ∀ u ∈ R, ltC (u.toNat : Int) = true) : (32 : UInt8) ∉ R := fun h => by have := hR _ h; revert this; decide +kernel
theorem sp_no_dg {R : List UInt8} (hR : ∀ u ∈ R, dgt (u.toNat : Int) = true) : (32 : UInt8) ∉ R := fun h => by have := hR _ h; revert this; decide +kernel
theorem allN_ltC {s : ByteArray} : allN ltC s = true ↔ (∀ u ∈ s.data.toList, ltC (u.toNat : Int) = true) ∧ s.size ≠ 0 := by
  unfold allN
  rw [Bool.and_eq_true, allB_nms, List.all_eq_true]
  constructor
  · rintro ⟨h1, h2⟩
    exact ⟨fun u hu => h1 _ (by unfold nmsB; exact List.mem_map.2 ⟨u, hu, rfl⟩), by simpa using h2⟩
  · rintro ⟨h1, h2⟩
    refine ⟨fun z hz => ?_, by simpa using h2⟩
    unfold nmsB at hz
    obtain ⟨u, hu, rfl⟩ := List.mem_map.1 hz
    exact h1 u hu
/-- What such a line is made of. -/
theorem md_list {l a b : ByteArray} {p : Int} (h : mdO l = some (a, p, b)) : ∃ R A Z : List UInt8, l.data.toList = 109 :: 61 :: (R ++ 32 :: (A ++ 32 :: Z)) ∧ R ≠ [] ∧ (∀ u ∈ R, ltC (u.toNat : Int) = true) ∧ prV ⟨A.toArray⟩ = some p ∧ a.data.toList = 109 :: 61 :: (R ++ [32]) ∧ b.data.toList = 32 :: Z := by
  unfold mdO at h
  split at h
  · cases h
  rename_i h1
  split at h
  · cases h
  rename_i h2
  cases hp : prV (cutA (cutZ l spB) spB) with
  | none => rw [hp] at h; cases h
  | some q =>
    rw [hp] at h
    simp only at h
    split at h
    · cases h
    rename_i h3
    simp only [Option.some.injEq, Prod.mk.injEq] at h
    obtain ⟨ha, rfl, hb⟩ := h
    have h1' : hpB (cutA l spB) meB = true := by simpa using h1
    have h2' : cutF (cutZ l spB) spB = true := by simpa using h2
    have h3' : allN ltC (tpB (cutA l spB) meB) = true := by simpa using h3
    have hf : cutF l spB = true := by
      cases hf : cutF l spB with
      | true => rfl
      | false => rw [(cut_no hf).2, cut_empty (s := ⟨#[]⟩) rfl (by decide)] at h2'; cases h2'
    have e1 := cut_yes hf
    have e2 := cut_yes h2'
    have h1'' := h1'
    unfold hpB Lib.hasPrefix at h1'
    rw [List.isPrefixOf_iff_prefix] at h1'
    obtain ⟨R, hR⟩ := h1'
    have hR' : (cutA l spB).data.toList = 109 :: 61 :: R := hR.symm
    have ht : (tpB (cutA l spB) meB).data.toList = R := by
      unfold tpB Lib.trimPrefix
      unfold hpB at h1''
      rw [if_pos h1'', hR']
      rfl
    obtain ⟨hl, hn⟩ := allN_ltC.1 h3'
    rw [ht] at hl
    have e3 : (cutZ l spB).data.toList = (cutA (cutZ l spB) spB).data.toList ++ 32 :: (cutZ (cutZ l spB) spB).data.toList := by
      have := congrArg (fun s : ByteArray => s.data.toList) e2
      rw [ba_app, ba_app] at this
      exact this
    refine ⟨R, (cutA (cutZ l spB) spB).data.toList, (cutZ (cutZ l spB) spB).data.toList, ?_, ?_, hl, ?_, ?_, ?_⟩
    · have := congrArg (fun s : ByteArray => s.data.toList) e1
      rw [ba_app, ba_app, hR', e3] at this
      exact this
    · intro hr
      rw [ba_len, ht, hr] at hn
      exact hn rfl
    · have : (⟨(cutA (cutZ l spB) spB).data.toList.toArray⟩ : ByteArray) = cutA (cutZ l spB) spB := ba_ext (by simp)
      rw [this]
      exact hp
    · rw [← ha, ba_app, hR']
      rfl
    · rw [← hb, ba_ext_list, ba_len (cutZ l spB), List.take_length, e3, ba_len (cutA (cutZ l spB) spB), List.drop_left]
/-- What is made so is such a line. -/
theorem md_make {l : ByteArray} {R A Z : List UInt8} {p : Int} (hl : l.data.toList = 109 :: 61 :: (R ++ 32 :: (A ++ 32 :: Z))) (hR0 : R ≠ []) (hR : ∀ u ∈ R, ltC (u.toNat : Int) = true) (hp : prV ⟨A.toArray⟩ = some p) :
    mdO l = some (⟨(109 :: 61 :: (R ++ [32])).toArray⟩, p, ⟨(32 :: Z).toArray⟩) := by
  have hd := prV_digits hp
  simp only at hd
  obtain ⟨c1, c2, c3⟩ := cut_uniq (s := l) (p := spB) (a := ⟨(109 :: 61 :: R).toArray⟩) (z := ⟨(A ++ 32 :: Z).toArray⟩) (ba_ext (by rw [ba_app, ba_app, hl]; simp [spB])) (by
    rw [hl]
    have := noOcc1 (a := 109 :: 61 :: R) (r := 32 :: (A ++ 32 :: Z)) (c := 32) (by
      simp only [List.mem_cons]
      rintro (h | h | h)
      · exact absurd h (by decide)
      · exact absurd h (by decide)
      · exact sp_no_lt hR h)
    have e : ByteArray.size ⟨(109 :: 61 :: R).toArray⟩ = (109 :: 61 :: R).length := by simp [ByteArray.size]
    rw [e]
    simpa [spB] using this)
  obtain ⟨d1, d2, d3⟩ := cut_uniq (s := ⟨(A ++ 32 :: Z).toArray⟩) (p := spB) (a := ⟨A.toArray⟩) (z := ⟨Z.toArray⟩) (ba_ext (by rw [ba_app, ba_app]; simp [spB])) (by
    have := noOcc1 (a := A) (r := 32 :: Z) (c := 32) (sp_no_dg (fun u hu => hd u (by simpa using hu)))
    have e : ByteArray.size ⟨A.toArray⟩ = A.length := by simp [ByteArray.size]
    rw [e]
    simpa [spB] using this)
  have hh : hpB ⟨(109 :: 61 :: R).toArray⟩ meB = true := by
    unfold hpB Lib.hasPrefix
    rw [List.isPrefixOf_iff_prefix]
    exact ⟨R, by simp [meB]⟩
  have ht : tpB ⟨(109 :: 61 :: R).toArray⟩ meB = ⟨R.toArray⟩ := by
    apply ba_ext
    unfold tpB Lib.trimPrefix
    unfold hpB at hh
    rw [if_pos hh]
    simp [meB]
  have ha : allN ltC ⟨R.toArray⟩ = true := allN_ltC.2 ⟨fun u hu => hR u (by simpa using hu), by
    intro h
    have : R.length = 0 := by simpa [ByteArray.size] using h
    exact hR0 (List.eq_nil_of_length_eq_zero this)⟩
  unfold mdO
  rw [c2, c3, if_neg (by rw [hh]; simp), if_neg (by rw [d1]; simp), d2, hp]
  simp only
  rw [ht, if_neg (by rw [ha]; simp)]
  refine congrArg some (Prod.ext ?_ (Prod.ext rfl ?_))
  · apply ba_ext
    show (_ ++ _ : ByteArray).data.toList = _
    rw [ba_app]
    simp [spB]
  · apply ba_ext
    show (ByteArray.extract _ _ _).data.toList = _
    rw [ba_ext_list]
    have e : ByteArray.size ⟨A.toArray⟩ = A.length := by simp [ByteArray.size]
    have e2 : ByteArray.size ⟨(A ++ 32 :: Z).toArray⟩ = (A ++ 32 :: Z).length := by simp [ByteArray.size]
    rw [e, e2]
    simp only [List.take_length, List.drop_left]

/-- How far letters go. -/
def LtS (l : ByteArray) (n : Nat) : Prop := 2 ≤ n ∧ n ≤ l.size ∧ ∀ j, 2 ≤ j → j < n → ltC (bAt l j) = true
theorem LtS.succ {l : ByteArray} {n : Nat} (h : LtS l n) (hn : n < l.size) (hc : ltC (bAt l n) = true) : LtS l (n + 1) := ⟨by have := h.1; omega, by omega, fun j h1 h2 => by
  rcases Nat.lt_or_eq_of_le (Nat.lt_succ_iff.1 h2) with q | rfl
  · exact h.2.2 j h1 q
  · exact hc⟩
theorem nmsB_get (l : ByteArray) (j : Nat) (h : j < l.size) : (nmsB l)[j]?.getD 0 = bAt l j := (nmsB_at l j h).symm
/-- What the document's media tells. -/
def rmV (l : ByteArray) : Option (ByteArray × Int × ByteArray) → Value
  | none => .tuple #[.int .i64 0, .int .i64 0, .int .i64 0, .bool false]
  | some (a, p, b) => .tuple #[.int .i64 p, .int .i64 ((a.size : Nat) : Int), .int .i64 (((l.size - b.size : Nat)) : Int), .bool true]
/-- It begins otherwise. -/
theorem md_begin {l : ByteArray} (h : ¬ (2 ≤ l.size ∧ bAt l 0 = 109 ∧ bAt l 1 = 61)) : mdO l = none := by
  cases hm : mdO l with
  | none => rfl
  | some m =>
    obtain ⟨a, p, b⟩ := m
    obtain ⟨R, A, Z, hl, _⟩ := md_list hm
    have hlen := congrArg List.length hl
    simp only [List.length_cons, List.length_append] at hlen
    refine absurd ⟨by rw [ba_len]; omega, ?_, ?_⟩ h
    · rw [bAt_L l 0 (by omega)]; simp [hl]
    · rw [bAt_L l 1 (by omega)]; simp [hl]
/-- Where its letters and digits end. -/
theorem md_where {l a b : ByteArray} {p : Int} (h : mdO l = some (a, p, b)) {n : Nat} (hn : LtS l n) (hs : n = l.size ∨ ltC (bAt l n) = false) :
    2 < n ∧ n < l.size ∧ bAt l n = 32 ∧ numD (nmsB l) (n + 1) 65535 = some (p, l.size - b.size) ∧ 1 ≤ p ∧ l.size - b.size < l.size ∧ bAt l (l.size - b.size) = 32 ∧ a.size = n + 1 := by
  obtain ⟨R, A, Z, hl, hR0, hR, hp, ha, hb⟩ := md_list h
  have hlen := congrArg List.length hl
  simp only [List.length_cons, List.length_append] at hlen
  have hsz : l.size = R.length + A.length + Z.length + 4 := by rw [ba_len]; omega
  have hRl : 0 < R.length := List.length_pos_iff.2 hR0
  have hbs : b.size = Z.length + 1 := by rw [ba_len, hb]; rfl
  have q1 : ∀ j, 2 ≤ j → j < R.length + 2 → ltC (bAt l j) = true := fun j h1 h2 => by
    rw [bAt_L l j (by omega)]
    have : l.data.toList[j]'(by omega) = R[j - 2]'(by omega) := by
      simp only [hl]
      obtain ⟨k, rfl⟩ : ∃ k, j = k + 2 := ⟨j - 2, by omega⟩
      simp only [List.getElem_cons_succ, Nat.add_sub_cancel]
      rw [List.getElem_append_left (by omega)]
    rw [this]
    exact hR _ (List.getElem_mem _)
  have q2 : bAt l (R.length + 2) = 32 := by
    rw [bAt_L l _ (by omega)]
    have : l.data.toList[R.length + 2]'(by omega) = 32 := by
      simp only [hl, List.getElem_cons_succ]
      rw [List.getElem_append_right (Nat.le_refl _)]
      simp
    rw [this]
    rfl
  have hnn : n = R.length + 2 := by
    rcases Nat.lt_trichotomy n (R.length + 2) with g | g | g
    · rcases hs with hs | hs
      · omega
      · rw [q1 n hn.1 g] at hs; cases hs
    · exact g
    · have := hn.2.2 (R.length + 2) (by omega) g
      rw [q2] at this
      exact absurd this (by decide +kernel)
  have q3 : ∀ j, j < A.length → bAt l (R.length + 3 + j) = ((A[j]!).toNat : Int) := fun j hj => by
    rw [bAt_L l _ (by omega)]
    have : l.data.toList[R.length + 3 + j]'(by omega) = A[j] := by
      simp only [hl, show R.length + 3 + j = R.length + 1 + j + 1 + 1 from by omega, List.getElem_cons_succ]
      rw [List.getElem_append_right (by omega)]
      simp only [show R.length + 1 + j - R.length = j + 1 from by omega, List.getElem_cons_succ]
      rw [List.getElem_append_left hj]
    rw [this, getElem!_pos A j hj]
  have q4 : bAt l (R.length + 3 + A.length) = 32 := by
    rw [bAt_L l _ (by omega)]
    have : l.data.toList[R.length + 3 + A.length]'(by omega) = 32 := by
      simp only [hl, show R.length + 3 + A.length = R.length + 1 + A.length + 1 + 1 from by omega, List.getElem_cons_succ]
      rw [List.getElem_append_right (by omega)]
      simp only [show R.length + 1 + A.length - R.length = A.length + 1 from by omega, List.getElem_cons_succ]
      rw [List.getElem_append_right (Nat.le_refl _)]
      simp
    rw [this]
    rfl
  have hd := prV_digits hp
  simp only at hd
  have hpr := prV_rng _ hp
  have hby := nmsB_by l
  have hzl : (nmsB l).length = l.size := nmsB_len l
  have hdz : dgZ (nmsB l) (R.length + 3) = R.length + 3 + A.length := by
    have hle := dgZ_le (zs := nmsB l) (p := R.length + 3) (by omega)
    rcases Nat.lt_trichotomy (dgZ (nmsB l) (R.length + 3)) (R.length + 3 + A.length) with g | g | g
    · have := dgZ_out (zs := nmsB l) (p := R.length + 3) (by omega)
      rw [nmsB_get l _ (by omega)] at this
      obtain ⟨j, hj⟩ : ∃ j, dgZ (nmsB l) (R.length + 3) = R.length + 3 + j := ⟨_, (Nat.add_sub_cancel' hle.1).symm⟩
      rw [hj, q3 j (by omega), getElem!_pos A j (by omega), hd _ (by simp)] at this
      cases this
    · exact g
    · have := dgZ_in (zs := nmsB l) (p := R.length + 3) (j := R.length + 3 + A.length) (by omega) g
      rw [nmsB_get l _ (by omega), q4] at this
      exact absurd this (by decide +kernel)
  have hdS : dgS (nmsB l) (R.length + 3) = ⟨A.toArray⟩ := by
    unfold dgS
    rw [hdz]
    apply ba_ext
    rw [strOfNums_data, show R.length + 3 + A.length - (R.length + 3) = A.length from by omega]
    have e : (nmsB l).drop (R.length + 3) = (A ++ 32 :: Z).map fun u => (u.toNat : Int) := by
      unfold nmsB
      rw [← List.map_drop, hl]
      congr 1
      simp only [show R.length + 3 = R.length + 1 + 1 + 1 from rfl, List.drop_succ_cons]
      rw [show R.length + 1 = R.length + 1 from rfl, ← List.drop_drop, List.drop_left]
      rfl
    rw [e, List.map_append, List.take_left' (by simp), List.map_map]
    show List.map _ A = A
    have : ∀ u : UInt8, ((fun n : Int => UInt8.ofNat n.toNat) ∘ fun u : UInt8 => (u.toNat : Int)) u = u := fun u => by simp
    rw [List.map_congr_left (fun u _ => this u)]
    simp
  have hnv : numV ⟨A.toArray⟩ 65535 = some p := by
    unfold prV at hp
    cases hv : numV ⟨A.toArray⟩ 65535 with
    | none => rw [hv] at hp; cases hp
    | some v =>
      rw [hv] at hp
      simp only at hp
      split at hp
      · cases hp
      · exact hp
  have hnd : numD (nmsB l) (R.length + 3) 65535 = some (p, R.length + 3 + A.length) := by
    rw [numD_is hby (by omega) (by omega), hdS, hnv, hdz]
    rfl
  rw [hnn]
  have he : l.size - b.size = R.length + 3 + A.length := by omega
  rw [he]
  have has : a.size = R.length + 3 := by rw [ba_len, ha]; simp
  exact ⟨by omega, by omega, q2, hnd, hpr.1, by omega, q4, by omega⟩
/-- What the document finds so is such a line. -/
theorem md_found {l : ByteArray} (h0 : 2 ≤ l.size ∧ bAt l 0 = 109 ∧ bAt l 1 = 61) {n : Nat} (hn : LtS l n) (h2 : 2 < n) (hl : n < l.size) (hsp : bAt l n = 32) {p : Int} {e : Nat} (hd : numD (nmsB l) (n + 1) 65535 = some (p, e)) (hp : p ≠ 0) (he : e < l.size) (hes : bAt l e = 32) :
    mdO l ≠ none := by
  have hzl : (nmsB l).length = l.size := nmsB_len l
  have hlL : l.data.toList.length = l.size := by rw [ba_len]
  rw [numD_is (nmsB_by l) (by omega) (by omega)] at hd
  cases hv : numV (dgS (nmsB l) (n + 1)) 65535 with
  | none => rw [hv] at hd; cases hd
  | some v =>
    rw [hv] at hd
    simp only [Option.map_some, Option.some.injEq, Prod.mk.injEq] at hd
    obtain ⟨rfl, hde⟩ := hd
    have hle := dgZ_le (zs := nmsB l) (p := n + 1) (by omega)
    rw [hde] at hle
    have hdS : dgS (nmsB l) (n + 1) = ⟨((l.data.toList.drop (n + 1)).take (e - (n + 1))).toArray⟩ := by
      unfold dgS
      rw [hde]
      apply ba_ext
      rw [strOfNums_data]
      unfold nmsB
      rw [← List.map_drop, ← List.map_take, List.map_map]
      have : ∀ u : UInt8, ((fun n : Int => UInt8.ofNat n.toNat) ∘ fun u : UInt8 => (u.toNat : Int)) u = u := fun u => by simp
      rw [List.map_congr_left (fun u _ => this u)]
      simp
    have hpv : prV ⟨((l.data.toList.drop (n + 1)).take (e - (n + 1))).toArray⟩ = some v := by
      unfold prV
      rw [← hdS, hv]
      simp [hp]
    have g0 : l.data.toList[0]'(by omega) = 109 := by
      have := h0.2.1; rw [bAt_L l 0 (by omega)] at this; exact UInt8.toNat_inj.1 (by have e : (109 : UInt8).toNat = 109 := rfl; omega)
    have g1 : l.data.toList[1]'(by omega) = 61 := by
      have := h0.2.2; rw [bAt_L l 1 (by omega)] at this; exact UInt8.toNat_inj.1 (by have e : (61 : UInt8).toNat = 61 := rfl; omega)
    have g2 : l.data.toList[n]'(by omega) = 32 := by
      rw [bAt_L l n (by omega)] at hsp; exact UInt8.toNat_inj.1 (by have e : (32 : UInt8).toNat = 32 := rfl; omega)
    have g3 : l.data.toList[e]'(by omega) = 32 := by
      rw [bAt_L l e (by omega)] at hes; exact UInt8.toNat_inj.1 (by have e : (32 : UInt8).toNat = 32 := rfl; omega)
    have hform : l.data.toList = 109 :: 61 :: ((l.data.toList.drop 2).take (n - 2) ++ 32 :: ((l.data.toList.drop (n + 1)).take (e - (n + 1)) ++ 32 :: l.data.toList.drop (e + 1))) := by
      have a1 : l.data.toList = l.data.toList[0]'(by omega) :: l.data.toList[1]'(by omega) :: l.data.toList.drop 2 := by
        conv => lhs; rw [← List.drop_zero (l := l.data.toList), List.drop_eq_getElem_cons (by omega), List.drop_eq_getElem_cons (by omega)]
      have a2 : l.data.toList.drop 2 = (l.data.toList.drop 2).take (n - 2) ++ l.data.toList.drop n := by
        conv => lhs; rw [← List.take_append_drop (n - 2) (l.data.toList.drop 2), List.drop_drop]
        rw [show 2 + (n - 2) = n from by omega]
      have a3 : l.data.toList.drop n = l.data.toList[n]'(by omega) :: l.data.toList.drop (n + 1) := List.drop_eq_getElem_cons (by omega)
      have a4 : l.data.toList.drop (n + 1) = (l.data.toList.drop (n + 1)).take (e - (n + 1)) ++ l.data.toList.drop e := by
        conv => lhs; rw [← List.take_append_drop (e - (n + 1)) (l.data.toList.drop (n + 1)), List.drop_drop]
        rw [show n + 1 + (e - (n + 1)) = e from by omega]
      have a5 : l.data.toList.drop e = l.data.toList[e]'(by omega) :: l.data.toList.drop (e + 1) := List.drop_eq_getElem_cons (by omega)
      rw [g0, g1] at a1
      rw [g2] at a3
      rw [g3] at a5
      conv => lhs; rw [a1, a2, a3, a4, a5]
    rw [md_make hform (by
      intro h
      have := congrArg List.length h
      rw [List.length_take, List.length_drop] at this
      simp at this
      omega) (fun u hu => by
        obtain ⟨j, hj, rfl⟩ := List.getElem_of_mem hu
        rw [List.length_take, List.length_drop] at hj
        have := hn.2.2 (2 + j) (by omega) (by omega)
        rw [bAt_L l (2 + j) (by omega)] at this
        rw [List.getElem_take, List.getElem_drop]
        exact this) hpv]
    simp
end Go.Proofs.YtehdgndbloaljaaDoor

/- The walk of the document's media. -/
namespace Go.Proofs.YtehdgndbloaljaaDoor
open Go.RowKit Go.Shelf
set_option maxRecDepth 100000
set_option linter.unusedVariables false
set_option linter.unusedSimpArgs false

theorem ext2 {l : ByteArray} (h2 : 2 ≤ l.size) : ((l.extract 0 2).toList == [109, 61]) = decide (bAt l 0 = 109 ∧ bAt l 1 = 61) := by
  have hl : l.data.toList.length = l.size := by rw [ba_len]
  have b0 := bAt_L l 0 (by omega)
  have b1 := bAt_L l 1 (by omega)
  have e : (l.extract 0 2).toList = [l.data.toList[0]'(by omega), l.data.toList[1]'(by omega)] := by
    rw [ByteArray.toList_eq]
    show (l.extract 0 2).data.toList = _
    rw [ba_ext_list, List.drop_zero]
    have : l.data.toList = l.data.toList[0]'(by omega) :: l.data.toList[1]'(by omega) :: l.data.toList.drop 2 := by
      conv => lhs; rw [← List.drop_zero (l := l.data.toList), List.drop_eq_getElem_cons (by omega), List.drop_eq_getElem_cons (by omega)]
    conv => lhs; rw [this]
    rfl
  rw [e, b0, b1]
  have u : ∀ (x y : UInt8) (k : Nat), y.toNat = k → ((x == y) = decide ((x.toNat : Int) = (k : Int))) := fun x y k hk => by
    rw [Bool.eq_iff_iff, beq_iff_eq, decide_eq_true_eq]
    exact ⟨fun h => by rw [h, hk], fun h => UInt8.toNat_inj.1 (by omega)⟩
  show ((_ == (109 : UInt8)) && ((_ == (61 : UInt8)) && true)) = _
  rw [u _ 109 109 rfl, u _ 61 61 rfl, Bool.and_true]
  simp

set_option maxRecDepth 100000 in
set_option maxHeartbeats 8000000 in
theorem rmedia_any (l : ByteArray) (w : World) (hs : l.size ≤ 100000) :
    Calls Tryd.prog 32 #[.string l] w fun e w' => e = .returned (rmV l (mdO l)) ∧ Later w w' := by
  by_cases h2 : 2 ≤ l.size
  · have hex := ext2 h2
    have hs2 : ¬ (l.size : Int) < 2 := by omega
    have hs3 : (2 : Int) ≤ (l.size : Int) := by omega
    by_cases hb : bAt l 0 = 109 ∧ bAt l 1 = 61
    · have h0 : 2 ≤ l.size ∧ bAt l 0 = 109 ∧ bAt l 1 = 61 := ⟨h2, hb⟩
      rw [decide_eq_true hb] at hex
      generalize hmo : mdO l = mo
      have HMO := hide hmo
      clear hmo hb
      go_enter Tryd.func32, Tryd.ntmps32
      go_upto_region 4 with fail
      clear hex hs2 hs3
      go_loopw [6] (fun av wr => ∃ n : Nat, av = .int .i64 (n : Int) ∧ wr = w ∧ Hid (LtS l n)) (fun av _ => l.size - (intOf av).toNat)
      case atStart => exact ⟨2, rfl, rfl, ⟨Nat.le_refl _, h2, fun j h1 h2 => by omega⟩⟩
      case round =>
        obtain ⟨n, rfl, hwr, HL⟩ := hrel
        subst hwr
        have hnl := HL.out.2.1
        by_cases hlt : n < l.size
        · have hlt1 : (n : Int) < (l.size : Int) := by omega
          have hbg := bAt_get l n hlt
          have HSU : Hid (ltC (bAt l n) = true → LtS l (n + 1)) := fun h => HL.out.succ hlt h
          have HLC : Hid (ltC (bAt l n) = ((decide (97 ≤ bAt l n) && decide (bAt l n ≤ 122)) || (decide (65 ≤ bAt l n) && decide (bAt l n ≤ 90)))) := rfl
          rw [← hbg] at HLC HSU
          have HST0 : Hid (ltC ((((l[n]'hlt).toNat : Nat) : Int)) = false → n = l.size ∨ ltC (bAt l n) = false) := fun h => .inr (by rw [← hbg]; exact h)
          clear hbg
          by_cases a1 : 97 ≤ (((l[n]'hlt).toNat : Nat) : Int)
          · by_cases a2 : (((l[n]'hlt).toNat : Nat) : Int) ≤ 122
            · have HN := hide (HSU.out (by rw [HLC.out]; simp [a1, a2]))
              clear HSU HLC HST0
              go_wp2_with fail
              go_roundw
              case rel => exact ⟨n + 1, by go_num, by first | trivial | rfl, HN⟩
              case measure => simp [intOf]; omega
            · have a3 : 65 ≤ (((l[n]'hlt).toNat : Nat) : Int) := by omega
              have a4 : ¬ (((l[n]'hlt).toNat : Nat) : Int) ≤ 90 := by omega
              have HST := hide (HST0.out (by rw [HLC.out]; simp [a2, a4]))
              clear HSU HLC HST0
              go_upto_region 6 with fail
              clear a1 a2 a3 a4
              have HW : Hid (∀ a p b, mo = some (a, p, b) → 2 < n ∧ n < l.size ∧ bAt l n = 32 ∧ numD (nmsB l) (n + 1) 65535 = some (p, l.size - b.size) ∧ 1 ≤ p ∧ l.size - b.size < l.size ∧ bAt l (l.size - b.size) = 32 ∧ a.size = n + 1) := fun a p b h => md_where (HMO.out.trans h) HL.out HST.out
              have hn2 := HL.out.1
              by_cases c1 : n = 2
              · have HNO : Hid (mo = none) := by
                  (show _ = _)
                  cases hm : mo with
                  | none => rfl
                  | some m => obtain ⟨a, p, b⟩ := m; have := HW.out a p b hm; omega
                have t1 : ((n : Int) == 2) = true := by simp [c1]
                clear c1
                go_wp2_with fail
                refine bodyPost_ret (v := .tuple #[.int .i64 0, .int .i64 0, .int .i64 0, .bool false]) (by simp [results, Tryd.results32, go_sem]) rfl ?_
                exact ⟨by rw [HNO.out]; rfl, Later.refl _⟩
              by_cases c2 : n < l.size
              · have t1 : ((n : Int) == 2) = false := by rw [beq_eq_false_iff_ne]; omega
                have t2 : ¬ (l.size : Int) ≤ (n : Int) := by omega
                have hbg := bAt_get l n c2
                by_cases c3 : bAt l n = 32
                · have t3 : ((((l[n]'c2).toNat : Nat) : Int) != 32) = false := by rw [hbg, c3]; rfl
                  have HMF : Hid (∀ p e, numD (nmsB l) (n + 1) 65535 = some (p, e) → p ≠ 0 → e < l.size → bAt l e = 32 → mo ≠ none) := fun p e hd hp he hes => by rw [← HMO.out]; exact md_found h0 HL.out (by omega) c2 c3 hd hp he hes
                  clear hbg c1
                  go_upto_region 8 with fail
                  clear t1 t2 t3
                  have hG := conv_G wr l (by omega)
                  have hcv := Lib.run_convert_string_bytes wr 9 22 5 l Tryd.underlying9 Tryd.underlying22 Tryd.underlying5
                  have lc := conv_later wr 5 l
                  have hR := hG.rd
                  generalize Lib.bytesWorld wr 5 l = w2 at *
                  generalize grownCap wr l.size 0 5 = gcp at *
                  have HNU := hide (rnumber_any wr.heap.size 0 gcp w2.heap.size (nmsB l) (nmsB_by l) (n + 1) 65535 w2 (by rw [nmsB_len]; exact hR) (by rw [nmsB_len]; omega) (by rw [nmsB_len]; omega) (by omega))
                  rw [nmsB_len] at HNU
                  clear hG hR
                  generalize numD (nmsB l) (n + 1) 65535 = nd at *
                  generalize wr.heap.size = gq at *
                  have q1 : ((n + 1 : Nat) : Int) = (n : Int) + 1 := by omega
                  rw [q1] at HNU
                  clear q1
                  have hnb : (n : Int) + 1 ≤ 9223372036854775807 := by omega
                  go_wp2_with fail
                  refine HNU.out.mono ?_
                  rintro e w3 ⟨rfl, hw3⟩
                  subst hw3
                  clear hcv HNU
                  cases nd with
                  | none =>
                    have HNO : Hid (mo = none) := by
                      (show _ = _)
                      cases hm : mo with
                      | none => rfl
                      | some m => obtain ⟨a, p, b⟩ := m; have := (HW.out a p b hm).2.2.2.1; cases this
                    simp only [Option.map_none, Option.getD_none, Option.isSome_none]
                    go_wp2_with fail
                    refine bodyPost_ret (v := .tuple #[.int .i64 0, .int .i64 0, .int .i64 0, .bool false]) (by simp [results, Tryd.results32, go_sem]) rfl ?_
                    exact ⟨by rw [HNO.out]; rfl, lc⟩
                  | some pe =>
                    obtain ⟨p, e⟩ := pe
                    simp only [Option.map_some, Option.getD_some, Option.isSome_some]
                    have HW2 : Hid (∀ a q b, mo = some (a, q, b) → q = p ∧ l.size - b.size = e ∧ 1 ≤ p ∧ e < l.size ∧ bAt l e = 32 ∧ a.size = n + 1) := fun a q b h => by
                      obtain ⟨_, _, _, g1, g2, g3, g4, g5⟩ := HW.out a q b h
                      simp only [Option.some.injEq, Prod.mk.injEq] at g1
                      obtain ⟨rfl, rfl⟩ := g1
                      exact ⟨rfl, rfl, g2, g3, g4, g5⟩
                    clear HW
                    by_cases d1 : p = 0
                    · have HNO : Hid (mo = none) := by
                        (show _ = _)
                        cases hm : mo with
                        | none => rfl
                        | some m => obtain ⟨a, q, b⟩ := m; have := HW2.out a q b hm; omega
                      subst d1
                      go_wp2_with fail
                      refine bodyPost_ret (v := .tuple #[.int .i64 0, .int .i64 0, .int .i64 0, .bool false]) (by simp [results, Tryd.results32, go_sem]) rfl ?_
                      exact ⟨by rw [HNO.out]; rfl, lc⟩
                    · have f1 : (p == 0) = false := by rw [beq_eq_false_iff_ne]; exact d1
                      by_cases d2 : e < l.size
                      · have f2 : ¬ (l.size : Int) ≤ (e : Int) := by omega
                        have hbe := bAt_get l e d2
                        by_cases d3 : bAt l e = 32
                        · have f3 : ((((l[e]'d2).toNat : Nat) : Int) != 32) = false := by rw [hbe, d3]; rfl
                          have hne := HMF.out p e rfl d1 d2 d3
                          obtain ⟨m, HNO⟩ : ∃ m, Hid (mo = some m) := by
                            cases hm : mo with
                            | none => exact absurd hm hne
                            | some m => exact ⟨m, rfl⟩
                          obtain ⟨a, q, b⟩ := m
                          obtain ⟨g1, g2, _, _, _, g5⟩ := HW2.out a q b HNO.out
                          subst g1
                          have G2 := hide g2
                          have G5 := hide g5
                          clear hne hbe d3 d1 HMF HW2 g2 g5
                          go_wp2_with fail
                          refine bodyPost_ret (v := .tuple #[.int .i64 q, .int .i64 ((n : Int) + 1), .int .i64 (e : Int), .bool true]) (by simp [results, Tryd.results32, go_sem]) rfl ?_
                          exact ⟨by rw [HNO.out]; simp only [rmV]; rw [G2.out, G5.out]; rfl, lc⟩
                        · have HNO : Hid (mo = none) := by
                            (show _ = _)
                            cases hm : mo with
                            | none => rfl
                            | some m => obtain ⟨a, q, b⟩ := m; exact absurd (HW2.out a q b hm).2.2.2.2.1 d3
                          have f3 : ((((l[e]'d2).toNat : Nat) : Int) != 32) = true := by rw [hbe]; simp [d3]
                          clear hbe d3 d1 HMF HW2
                          go_wp2_with fail
                          refine bodyPost_ret (v := .tuple #[.int .i64 0, .int .i64 0, .int .i64 0, .bool false]) (by simp [results, Tryd.results32, go_sem]) rfl ?_
                          exact ⟨by rw [HNO.out]; rfl, lc⟩
                      · have HNO : Hid (mo = none) := by
                          (show _ = _)
                          cases hm : mo with
                          | none => rfl
                          | some m => obtain ⟨a, q, b⟩ := m; exact absurd (HW2.out a q b hm).2.2.2.1 d2
                        have f2 : (l.size : Int) ≤ (e : Int) := by omega
                        clear d1 HMF HW2
                        go_wp2_with fail
                        refine bodyPost_ret (v := .tuple #[.int .i64 0, .int .i64 0, .int .i64 0, .bool false]) (by simp [results, Tryd.results32, go_sem]) rfl ?_
                        exact ⟨by rw [HNO.out]; rfl, lc⟩
                · have HNO : Hid (mo = none) := by
                    (show _ = _)
                    cases hm : mo with
                    | none => rfl
                    | some m => obtain ⟨a, p, b⟩ := m; exact absurd (HW.out a p b hm).2.2.1 c3
                  have t3 : ((((l[n]'c2).toNat : Nat) : Int) != 32) = true := by rw [hbg]; simp [c3]
                  clear hbg c3 c1
                  go_wp2_with fail
                  refine bodyPost_ret (v := .tuple #[.int .i64 0, .int .i64 0, .int .i64 0, .bool false]) (by simp [results, Tryd.results32, go_sem]) rfl ?_
                  exact ⟨by rw [HNO.out]; rfl, Later.refl _⟩
              · have HNO : Hid (mo = none) := by
                  (show _ = _)
                  cases hm : mo with
                  | none => rfl
                  | some m => obtain ⟨a, p, b⟩ := m; exact absurd (HW.out a p b hm).2.1 c2
                have t1 : ((n : Int) == 2) = false := by rw [beq_eq_false_iff_ne]; omega
                have t2 : (l.size : Int) ≤ (n : Int) := by omega
                clear c1
                go_wp2_with fail
                refine bodyPost_ret (v := .tuple #[.int .i64 0, .int .i64 0, .int .i64 0, .bool false]) (by simp [results, Tryd.results32, go_sem]) rfl ?_
                exact ⟨by rw [HNO.out]; rfl, Later.refl _⟩
          · by_cases a3 : 65 ≤ (((l[n]'hlt).toNat : Nat) : Int)
            · by_cases a4 : (((l[n]'hlt).toNat : Nat) : Int) ≤ 90
              · have HN := hide (HSU.out (by rw [HLC.out]; simp [a3, a4]))
                clear HSU HLC HST0
                go_wp2_with fail
                go_roundw
                case rel => exact ⟨n + 1, by go_num, by first | trivial | rfl, HN⟩
                case measure => simp [intOf]; omega
              · have HST := hide (HST0.out (by rw [HLC.out]; simp [a1, a4]))
                clear HSU HLC HST0
                go_upto_region 6 with fail
                clear a1 a3 a4
                have HW : Hid (∀ a p b, mo = some (a, p, b) → 2 < n ∧ n < l.size ∧ bAt l n = 32 ∧ numD (nmsB l) (n + 1) 65535 = some (p, l.size - b.size) ∧ 1 ≤ p ∧ l.size - b.size < l.size ∧ bAt l (l.size - b.size) = 32 ∧ a.size = n + 1) := fun a p b h => md_where (HMO.out.trans h) HL.out HST.out
                have hn2 := HL.out.1
                by_cases c1 : n = 2
                · have HNO : Hid (mo = none) := by
                    (show _ = _)
                    cases hm : mo with
                    | none => rfl
                    | some m => obtain ⟨a, p, b⟩ := m; have := HW.out a p b hm; omega
                  have t1 : ((n : Int) == 2) = true := by simp [c1]
                  clear c1
                  go_wp2_with fail
                  refine bodyPost_ret (v := .tuple #[.int .i64 0, .int .i64 0, .int .i64 0, .bool false]) (by simp [results, Tryd.results32, go_sem]) rfl ?_
                  exact ⟨by rw [HNO.out]; rfl, Later.refl _⟩
                by_cases c2 : n < l.size
                · have t1 : ((n : Int) == 2) = false := by rw [beq_eq_false_iff_ne]; omega
                  have t2 : ¬ (l.size : Int) ≤ (n : Int) := by omega
                  have hbg := bAt_get l n c2
                  by_cases c3 : bAt l n = 32
                  · have t3 : ((((l[n]'c2).toNat : Nat) : Int) != 32) = false := by rw [hbg, c3]; rfl
                    have HMF : Hid (∀ p e, numD (nmsB l) (n + 1) 65535 = some (p, e) → p ≠ 0 → e < l.size → bAt l e = 32 → mo ≠ none) := fun p e hd hp he hes => by rw [← HMO.out]; exact md_found h0 HL.out (by omega) c2 c3 hd hp he hes
                    clear hbg c1
                    go_upto_region 8 with fail
                    clear t1 t2 t3
                    have hG := conv_G wr l (by omega)
                    have hcv := Lib.run_convert_string_bytes wr 9 22 5 l Tryd.underlying9 Tryd.underlying22 Tryd.underlying5
                    have lc := conv_later wr 5 l
                    have hR := hG.rd
                    generalize Lib.bytesWorld wr 5 l = w2 at *
                    generalize grownCap wr l.size 0 5 = gcp at *
                    have HNU := hide (rnumber_any wr.heap.size 0 gcp w2.heap.size (nmsB l) (nmsB_by l) (n + 1) 65535 w2 (by rw [nmsB_len]; exact hR) (by rw [nmsB_len]; omega) (by rw [nmsB_len]; omega) (by omega))
                    rw [nmsB_len] at HNU
                    clear hG hR
                    generalize numD (nmsB l) (n + 1) 65535 = nd at *
                    generalize wr.heap.size = gq at *
                    have q1 : ((n + 1 : Nat) : Int) = (n : Int) + 1 := by omega
                    rw [q1] at HNU
                    clear q1
                    have hnb : (n : Int) + 1 ≤ 9223372036854775807 := by omega
                    go_wp2_with fail
                    refine HNU.out.mono ?_
                    rintro e w3 ⟨rfl, hw3⟩
                    subst hw3
                    clear hcv HNU
                    cases nd with
                    | none =>
                      have HNO : Hid (mo = none) := by
                        (show _ = _)
                        cases hm : mo with
                        | none => rfl
                        | some m => obtain ⟨a, p, b⟩ := m; have := (HW.out a p b hm).2.2.2.1; cases this
                      simp only [Option.map_none, Option.getD_none, Option.isSome_none]
                      go_wp2_with fail
                      refine bodyPost_ret (v := .tuple #[.int .i64 0, .int .i64 0, .int .i64 0, .bool false]) (by simp [results, Tryd.results32, go_sem]) rfl ?_
                      exact ⟨by rw [HNO.out]; rfl, lc⟩
                    | some pe =>
                      obtain ⟨p, e⟩ := pe
                      simp only [Option.map_some, Option.getD_some, Option.isSome_some]
                      have HW2 : Hid (∀ a q b, mo = some (a, q, b) → q = p ∧ l.size - b.size = e ∧ 1 ≤ p ∧ e < l.size ∧ bAt l e = 32 ∧ a.size = n + 1) := fun a q b h => by
                        obtain ⟨_, _, _, g1, g2, g3, g4, g5⟩ := HW.out a q b h
                        simp only [Option.some.injEq, Prod.mk.injEq] at g1
                        obtain ⟨rfl, rfl⟩ := g1
                        exact ⟨rfl, rfl, g2, g3, g4, g5⟩
                      clear HW
                      by_cases d1 : p = 0
                      · have HNO : Hid (mo = none) := by
                          (show _ = _)
                          cases hm : mo with
                          | none => rfl
                          | some m => obtain ⟨a, q, b⟩ := m; have := HW2.out a q b hm; omega
                        subst d1
                        go_wp2_with fail
                        refine bodyPost_ret (v := .tuple #[.int .i64 0, .int .i64 0, .int .i64 0, .bool false]) (by simp [results, Tryd.results32, go_sem]) rfl ?_
                        exact ⟨by rw [HNO.out]; rfl, lc⟩
                      · have f1 : (p == 0) = false := by rw [beq_eq_false_iff_ne]; exact d1
                        by_cases d2 : e < l.size
                        · have f2 : ¬ (l.size : Int) ≤ (e : Int) := by omega
                          have hbe := bAt_get l e d2
                          by_cases d3 : bAt l e = 32
                          · have f3 : ((((l[e]'d2).toNat : Nat) : Int) != 32) = false := by rw [hbe, d3]; rfl
                            have hne := HMF.out p e rfl d1 d2 d3
                            obtain ⟨m, HNO⟩ : ∃ m, Hid (mo = some m) := by
                              cases hm : mo with
                              | none => exact absurd hm hne
                              | some m => exact ⟨m, rfl⟩
                            obtain ⟨a, q, b⟩ := m
                            obtain ⟨g1, g2, _, _, _, g5⟩ := HW2.out a q b HNO.out
                            subst g1
                            have G2 := hide g2
                            have G5 := hide g5
                            clear hne hbe d3 d1 HMF HW2 g2 g5
                            go_wp2_with fail
                            refine bodyPost_ret (v := .tuple #[.int .i64 q, .int .i64 ((n : Int) + 1), .int .i64 (e : Int), .bool true]) (by simp [results, Tryd.results32, go_sem]) rfl ?_
                            exact ⟨by rw [HNO.out]; simp only [rmV]; rw [G2.out, G5.out]; rfl, lc⟩
                          · have HNO : Hid (mo = none) := by
                              (show _ = _)
                              cases hm : mo with
                              | none => rfl
                              | some m => obtain ⟨a, q, b⟩ := m; exact absurd (HW2.out a q b hm).2.2.2.2.1 d3
                            have f3 : ((((l[e]'d2).toNat : Nat) : Int) != 32) = true := by rw [hbe]; simp [d3]
                            clear hbe d3 d1 HMF HW2
                            go_wp2_with fail
                            refine bodyPost_ret (v := .tuple #[.int .i64 0, .int .i64 0, .int .i64 0, .bool false]) (by simp [results, Tryd.results32, go_sem]) rfl ?_
                            exact ⟨by rw [HNO.out]; rfl, lc⟩
                        · have HNO : Hid (mo = none) := by
                            (show _ = _)
                            cases hm : mo with
                            | none => rfl
                            | some m => obtain ⟨a, q, b⟩ := m; exact absurd (HW2.out a q b hm).2.2.2.1 d2
                          have f2 : (l.size : Int) ≤ (e : Int) := by omega
                          clear d1 HMF HW2
                          go_wp2_with fail
                          refine bodyPost_ret (v := .tuple #[.int .i64 0, .int .i64 0, .int .i64 0, .bool false]) (by simp [results, Tryd.results32, go_sem]) rfl ?_
                          exact ⟨by rw [HNO.out]; rfl, lc⟩
                  · have HNO : Hid (mo = none) := by
                      (show _ = _)
                      cases hm : mo with
                      | none => rfl
                      | some m => obtain ⟨a, p, b⟩ := m; exact absurd (HW.out a p b hm).2.2.1 c3
                    have t3 : ((((l[n]'c2).toNat : Nat) : Int) != 32) = true := by rw [hbg]; simp [c3]
                    clear hbg c3 c1
                    go_wp2_with fail
                    refine bodyPost_ret (v := .tuple #[.int .i64 0, .int .i64 0, .int .i64 0, .bool false]) (by simp [results, Tryd.results32, go_sem]) rfl ?_
                    exact ⟨by rw [HNO.out]; rfl, Later.refl _⟩
                · have HNO : Hid (mo = none) := by
                    (show _ = _)
                    cases hm : mo with
                    | none => rfl
                    | some m => obtain ⟨a, p, b⟩ := m; exact absurd (HW.out a p b hm).2.1 c2
                  have t1 : ((n : Int) == 2) = false := by rw [beq_eq_false_iff_ne]; omega
                  have t2 : (l.size : Int) ≤ (n : Int) := by omega
                  clear c1
                  go_wp2_with fail
                  refine bodyPost_ret (v := .tuple #[.int .i64 0, .int .i64 0, .int .i64 0, .bool false]) (by simp [results, Tryd.results32, go_sem]) rfl ?_
                  exact ⟨by rw [HNO.out]; rfl, Later.refl _⟩
            · have HST := hide (HST0.out (by rw [HLC.out]; simp [a1, a3]))
              clear HSU HLC HST0
              go_upto_region 6 with fail
              clear a1 a3
              have HW : Hid (∀ a p b, mo = some (a, p, b) → 2 < n ∧ n < l.size ∧ bAt l n = 32 ∧ numD (nmsB l) (n + 1) 65535 = some (p, l.size - b.size) ∧ 1 ≤ p ∧ l.size - b.size < l.size ∧ bAt l (l.size - b.size) = 32 ∧ a.size = n + 1) := fun a p b h => md_where (HMO.out.trans h) HL.out HST.out
              have hn2 := HL.out.1
              by_cases c1 : n = 2
              · have HNO : Hid (mo = none) := by
                  (show _ = _)
                  cases hm : mo with
                  | none => rfl
                  | some m => obtain ⟨a, p, b⟩ := m; have := HW.out a p b hm; omega
                have t1 : ((n : Int) == 2) = true := by simp [c1]
                clear c1
                go_wp2_with fail
                refine bodyPost_ret (v := .tuple #[.int .i64 0, .int .i64 0, .int .i64 0, .bool false]) (by simp [results, Tryd.results32, go_sem]) rfl ?_
                exact ⟨by rw [HNO.out]; rfl, Later.refl _⟩
              by_cases c2 : n < l.size
              · have t1 : ((n : Int) == 2) = false := by rw [beq_eq_false_iff_ne]; omega
                have t2 : ¬ (l.size : Int) ≤ (n : Int) := by omega
                have hbg := bAt_get l n c2
                by_cases c3 : bAt l n = 32
                · have t3 : ((((l[n]'c2).toNat : Nat) : Int) != 32) = false := by rw [hbg, c3]; rfl
                  have HMF : Hid (∀ p e, numD (nmsB l) (n + 1) 65535 = some (p, e) → p ≠ 0 → e < l.size → bAt l e = 32 → mo ≠ none) := fun p e hd hp he hes => by rw [← HMO.out]; exact md_found h0 HL.out (by omega) c2 c3 hd hp he hes
                  clear hbg c1
                  go_upto_region 8 with fail
                  clear t1 t2 t3
                  have hG := conv_G wr l (by omega)
                  have hcv := Lib.run_convert_string_bytes wr 9 22 5 l Tryd.underlying9 Tryd.underlying22 Tryd.underlying5
                  have lc := conv_later wr 5 l
                  have hR := hG.rd
                  generalize Lib.bytesWorld wr 5 l = w2 at *
                  generalize grownCap wr l.size 0 5 = gcp at *
                  have HNU := hide (rnumber_any wr.heap.size 0 gcp w2.heap.size (nmsB l) (nmsB_by l) (n + 1) 65535 w2 (by rw [nmsB_len]; exact hR) (by rw [nmsB_len]; omega) (by rw [nmsB_len]; omega) (by omega))
                  rw [nmsB_len] at HNU
                  clear hG hR
                  generalize numD (nmsB l) (n + 1) 65535 = nd at *
                  generalize wr.heap.size = gq at *
                  have q1 : ((n + 1 : Nat) : Int) = (n : Int) + 1 := by omega
                  rw [q1] at HNU
                  clear q1
                  have hnb : (n : Int) + 1 ≤ 9223372036854775807 := by omega
                  go_wp2_with fail
                  refine HNU.out.mono ?_
                  rintro e w3 ⟨rfl, hw3⟩
                  subst hw3
                  clear hcv HNU
                  cases nd with
                  | none =>
                    have HNO : Hid (mo = none) := by
                      (show _ = _)
                      cases hm : mo with
                      | none => rfl
                      | some m => obtain ⟨a, p, b⟩ := m; have := (HW.out a p b hm).2.2.2.1; cases this
                    simp only [Option.map_none, Option.getD_none, Option.isSome_none]
                    go_wp2_with fail
                    refine bodyPost_ret (v := .tuple #[.int .i64 0, .int .i64 0, .int .i64 0, .bool false]) (by simp [results, Tryd.results32, go_sem]) rfl ?_
                    exact ⟨by rw [HNO.out]; rfl, lc⟩
                  | some pe =>
                    obtain ⟨p, e⟩ := pe
                    simp only [Option.map_some, Option.getD_some, Option.isSome_some]
                    have HW2 : Hid (∀ a q b, mo = some (a, q, b) → q = p ∧ l.size - b.size = e ∧ 1 ≤ p ∧ e < l.size ∧ bAt l e = 32 ∧ a.size = n + 1) := fun a q b h => by
                      obtain ⟨_, _, _, g1, g2, g3, g4, g5⟩ := HW.out a q b h
                      simp only [Option.some.injEq, Prod.mk.injEq] at g1
                      obtain ⟨rfl, rfl⟩ := g1
                      exact ⟨rfl, rfl, g2, g3, g4, g5⟩
                    clear HW
                    by_cases d1 : p = 0
                    · have HNO : Hid (mo = none) := by
                        (show _ = _)
                        cases hm : mo with
                        | none => rfl
                        | some m => obtain ⟨a, q, b⟩ := m; have := HW2.out a q b hm; omega
                      subst d1
                      go_wp2_with fail
                      refine bodyPost_ret (v := .tuple #[.int .i64 0, .int .i64 0, .int .i64 0, .bool false]) (by simp [results, Tryd.results32, go_sem]) rfl ?_
                      exact ⟨by rw [HNO.out]; rfl, lc⟩
                    · have f1 : (p == 0) = false := by rw [beq_eq_false_iff_ne]; exact d1
                      by_cases d2 : e < l.size
                      · have f2 : ¬ (l.size : Int) ≤ (e : Int) := by omega
                        have hbe := bAt_get l e d2
                        by_cases d3 : bAt l e = 32
                        · have f3 : ((((l[e]'d2).toNat : Nat) : Int) != 32) = false := by rw [hbe, d3]; rfl
                          have hne := HMF.out p e rfl d1 d2 d3
                          obtain ⟨m, HNO⟩ : ∃ m, Hid (mo = some m) := by
                            cases hm : mo with
                            | none => exact absurd hm hne
                            | some m => exact ⟨m, rfl⟩
                          obtain ⟨a, q, b⟩ := m
                          obtain ⟨g1, g2, _, _, _, g5⟩ := HW2.out a q b HNO.out
                          subst g1
                          have G2 := hide g2
                          have G5 := hide g5
                          clear hne hbe d3 d1 HMF HW2 g2 g5
                          go_wp2_with fail
                          refine bodyPost_ret (v := .tuple #[.int .i64 q, .int .i64 ((n : Int) + 1), .int .i64 (e : Int), .bool true]) (by simp [results, Tryd.results32, go_sem]) rfl ?_
                          exact ⟨by rw [HNO.out]; simp only [rmV]; rw [G2.out, G5.out]; rfl, lc⟩
                        · have HNO : Hid (mo = none) := by
                            (show _ = _)
                            cases hm : mo with
                            | none => rfl
                            | some m => obtain ⟨a, q, b⟩ := m; exact absurd (HW2.out a q b hm).2.2.2.2.1 d3
                          have f3 : ((((l[e]'d2).toNat : Nat) : Int) != 32) = true := by rw [hbe]; simp [d3]
                          clear hbe d3 d1 HMF HW2
                          go_wp2_with fail
                          refine bodyPost_ret (v := .tuple #[.int .i64 0, .int .i64 0, .int .i64 0, .bool false]) (by simp [results, Tryd.results32, go_sem]) rfl ?_
                          exact ⟨by rw [HNO.out]; rfl, lc⟩
                      · have HNO : Hid (mo = none) := by
                          (show _ = _)
                          cases hm : mo with
                          | none => rfl
                          | some m => obtain ⟨a, q, b⟩ := m; exact absurd (HW2.out a q b hm).2.2.2.1 d2
                        have f2 : (l.size : Int) ≤ (e : Int) := by omega
                        clear d1 HMF HW2
                        go_wp2_with fail
                        refine bodyPost_ret (v := .tuple #[.int .i64 0, .int .i64 0, .int .i64 0, .bool false]) (by simp [results, Tryd.results32, go_sem]) rfl ?_
                        exact ⟨by rw [HNO.out]; rfl, lc⟩
                · have HNO : Hid (mo = none) := by
                    (show _ = _)
                    cases hm : mo with
                    | none => rfl
                    | some m => obtain ⟨a, p, b⟩ := m; exact absurd (HW.out a p b hm).2.2.1 c3
                  have t3 : ((((l[n]'c2).toNat : Nat) : Int) != 32) = true := by rw [hbg]; simp [c3]
                  clear hbg c3 c1
                  go_wp2_with fail
                  refine bodyPost_ret (v := .tuple #[.int .i64 0, .int .i64 0, .int .i64 0, .bool false]) (by simp [results, Tryd.results32, go_sem]) rfl ?_
                  exact ⟨by rw [HNO.out]; rfl, Later.refl _⟩
              · have HNO : Hid (mo = none) := by
                  (show _ = _)
                  cases hm : mo with
                  | none => rfl
                  | some m => obtain ⟨a, p, b⟩ := m; exact absurd (HW.out a p b hm).2.1 c2
                have t1 : ((n : Int) == 2) = false := by rw [beq_eq_false_iff_ne]; omega
                have t2 : (l.size : Int) ≤ (n : Int) := by omega
                clear c1
                go_wp2_with fail
                refine bodyPost_ret (v := .tuple #[.int .i64 0, .int .i64 0, .int .i64 0, .bool false]) (by simp [results, Tryd.results32, go_sem]) rfl ?_
                exact ⟨by rw [HNO.out]; rfl, Later.refl _⟩
        · have hng : ¬ (n : Int) < (l.size : Int) := by omega
          have HST : Hid (n = l.size ∨ ltC (bAt l n) = false) := .inl (by omega)
          go_upto_region 6 with fail
          have HW : Hid (∀ a p b, mo = some (a, p, b) → 2 < n ∧ n < l.size ∧ bAt l n = 32 ∧ numD (nmsB l) (n + 1) 65535 = some (p, l.size - b.size) ∧ 1 ≤ p ∧ l.size - b.size < l.size ∧ bAt l (l.size - b.size) = 32 ∧ a.size = n + 1) := fun a p b h => md_where (HMO.out.trans h) HL.out HST.out
          have hn2 := HL.out.1
          by_cases c1 : n = 2
          · have HNO : Hid (mo = none) := by
              (show _ = _)
              cases hm : mo with
              | none => rfl
              | some m => obtain ⟨a, p, b⟩ := m; have := HW.out a p b hm; omega
            have t1 : ((n : Int) == 2) = true := by simp [c1]
            clear c1
            go_wp2_with fail
            refine bodyPost_ret (v := .tuple #[.int .i64 0, .int .i64 0, .int .i64 0, .bool false]) (by simp [results, Tryd.results32, go_sem]) rfl ?_
            exact ⟨by rw [HNO.out]; rfl, Later.refl _⟩
          have c2 := hlt
          · have HNO : Hid (mo = none) := by
              (show _ = _)
              cases hm : mo with
              | none => rfl
              | some m => obtain ⟨a, p, b⟩ := m; exact absurd (HW.out a p b hm).2.1 c2
            have t1 : ((n : Int) == 2) = false := by rw [beq_eq_false_iff_ne]; omega
            have t2 : (l.size : Int) ≤ (n : Int) := by omega
            clear c1
            go_wp2_with fail
            refine bodyPost_ret (v := .tuple #[.int .i64 0, .int .i64 0, .int .i64 0, .bool false]) (by simp [results, Tryd.results32, go_sem]) rfl ?_
            exact ⟨by rw [HNO.out]; rfl, Later.refl _⟩
    · have HNO : Hid (mdO l = none) := md_begin (fun h => hb h.2)
      rw [decide_eq_false hb] at hex
      generalize mdO l = mo at *
      go_enter Tryd.func32, Tryd.ntmps32
      go_wp2_with fail
      refine bodyPost_ret (v := .tuple #[.int .i64 0, .int .i64 0, .int .i64 0, .bool false]) (by simp [results, Tryd.results32, go_sem]) rfl ?_
      exact ⟨by rw [HNO.out]; rfl, Later.refl _⟩
  · have HNO : Hid (mdO l = none) := md_begin (fun h => h2 h.1)
    have hs2 : (l.size : Int) < 2 := by omega
    generalize mdO l = mo at *
    go_enter Tryd.func32, Tryd.ntmps32
    go_wp2_with fail
    refine bodyPost_ret (v := .tuple #[.int .i64 0, .int .i64 0, .int .i64 0, .bool false]) (by simp [results, Tryd.results32, go_sem]) rfl ?_
    exact ⟨by rw [HNO.out]; rfl, Later.refl _⟩
end Go.Proofs.YtehdgndbloaljaaDoor

/- The document's lines. -/
namespace Go.Proofs.YtehdgndbloaljaaDoor
open Go.RowKit Go.Shelf
set_option maxRecDepth 100000
set_option linter.unusedVariables false
set_option linter.unusedSimpArgs false

/-- A text's lines as the document has them: each without its end, and whether it has one. -/
def dlF : Nat → ByteArray → List (ByteArray × Bool)
  | 0, s => [(s, false)]
  | n + 1, s => if cutF s crB = false then [(s, false)] else (cutA s crB, true) :: dlF n (cutZ s crB)
def dlB (s : ByteArray) : List (ByteArray × Bool) := dlF s.size s
theorem dlF_fuel : ∀ (n m : Nat) (s : ByteArray), s.size ≤ n → s.size ≤ m → dlF n s = dlF m s
  | 0, 0, s, _, _ => rfl
  | 0, m + 1, s, h, _ => by unfold dlF; rw [if_pos (cut_empty (by omega) (by decide))]
  | n + 1, 0, s, _, h => by unfold dlF; rw [if_pos (cut_empty (by omega) (by decide))]
  | n + 1, m + 1, s, h1, h2 => by
    unfold dlF
    split
    · rfl
    · rename_i hc
      have hf : cutF s crB = true := by simpa using hc
      have h0 : s.size ≠ 0 := fun h => by rw [cut_empty h (by decide)] at hf; cases hf
      have := (cut_sizes s crB).2 h0 (by decide)
      rw [dlF_fuel n m (cutZ s crB) (by omega) (by omega)]
theorem dlB_no {s : ByteArray} (h : cutF s crB = false) : dlB s = [(s, false)] := by
  unfold dlB
  cases s.size with
  | zero => rfl
  | succ n => unfold dlF; rw [if_pos h]
theorem dlB_yes {s : ByteArray} (h : cutF s crB = true) : dlB s = (cutA s crB, true) :: dlB (cutZ s crB) := by
  have h0 : s.size ≠ 0 := fun h0 => by rw [cut_empty h0 (by decide)] at h; cases h
  have hz := (cut_sizes s crB).2 h0 (by decide)
  have e : dlB s = dlF (s.size - 1 + 1) s := by unfold dlB; congr 1; omega
  rw [e]
  show (if cutF s crB = false then _ else _) = _
  rw [if_neg (by rw [h]; simp)]
  rw [dlF_fuel (s.size - 1) (cutZ s crB).size (cutZ s crB) (by omega) (Nat.le_refl _)]
  rfl
theorem dlF_len : ∀ (n : Nat) (s : ByteArray), (dlF n s).length ≤ n + 1
  | 0, s => Nat.le_refl _
  | n + 1, s => by
    unfold dlF
    split
    · simp
    · have := dlF_len n (cutZ s crB); simp only [List.length_cons]; omega
def lvS (l : List (ByteArray × Bool)) : List Value := l.map fun x => .string x.1
def lvE (l : List (ByteArray × Bool)) : List Value := l.map fun x => .bool x.2
theorem info_str14 : (Tryd.prog.info? 9).map (fun i => (i.zero, i.size, i.bytes)) = some (some (.string ⟨#[]⟩), 1, 16) := by kernel_rfl
theorem info_bool14 : (Tryd.prog.info? 4).map (fun i => (i.zero, i.size, i.bytes)) = some (some (.bool false), 1, 1) := by kernel_rfl
/-- One more of a plain kind appended. -/
theorem app1G {W : World} {base : Nat} {e t : TypeId} {i : TypeInfo} {z : Value} {bytes : Nat} (ht : Tryd.prog.underlying t = some (.slice e)) (hi : Tryd.prog.info? e = some i) (hz : i.zero = some z) (h1 : i.size = 1) (h2 : i.bytes = bytes) (hb : bytes ≤ 16) (hzc : z.cells.size = 1) {v : Value} {xs : List Value} (x : Value) (hx : x.oneCell' = true) (ho : W.ownsRow base e 1 v xs.length xs) (hl : xs.length ≤ 1000000) (hbW : base ≤ W.heap.size) (ty : TypeId) :
    ∃ a c W', (Builtin.append_ #[t, t] ty #[v, .slice (some ⟨W.heap.size, 0, none⟩) 1 1]).run Tryd.prog (W.alloc (.cells #[x] e)) = .ok (.slice a (xs.length + 1) c) W' ∧ W'.ownsRow base e 1 (.slice a (xs.length + 1) c) (xs ++ [x]).length (xs ++ [x]) ∧ (W.alloc (.cells #[x] e)).grownBy W' v.ownBlock := by
  have la := later_allocR W (.cells #[x] e)
  have hn := heap_alloc_new W (.cells #[x] e)
  obtain ⟨v', W', hrun, hrow, hg, _⟩ := run_append_own (P := Tryd.prog) (W.alloc (.cells #[x] e)) base t ty e i z 1 bytes ht hi hz h1 h2 hzc (by decide) v xs.length xs (ownsS_ct ho (CTs.of la)) ⟨W.heap.size, 0, none⟩ 1 1 [x] rfl
    (fun j u hj => by
      rw [show (⟨W.heap.size, 0, none⟩ : Addr).add j = ⟨W.heap.size, j, none⟩ from by unfold Addr.add; split <;> simp_all, block_cell hn j]
      simpa using hj)
    (by intro u hu; simp at hu; subst hu; exact hx) (by unfold maxLen; omega) (by have : (xs.length + 1) * bytes ≤ 1000001 * 16 := Nat.mul_le_mul (by omega) hb; omega) (Nat.le_trans hbW la.size)
  obtain ⟨a, c, rfl⟩ := owns_form hrow
  exact ⟨a, c, W', hrun, by simpa using hrow, hg⟩
/-- What such an append leaves. -/
theorem app1_keep {W W' : World} {base : Nat} {e : TypeId} {v x : Value} {xs : List Value} (ho : W.ownsRow base e 1 v xs.length xs) (hg : (W.alloc (.cells #[x] e)).grownBy W' v.ownBlock) (hb : base ≤ W.heap.size) : Below base W W' ∧ ∀ {e' : TypeId} {size : Nat} {v' : Value} {n : Nat} {ys : List Value}, e' ≠ e → W.ownsRow base e' size v' n ys → W'.ownsRow base e' size v' n ys := by
  have la := later_allocR W (.cells #[x] e)
  have ho' := ownsS_ct ho (CTs.of la)
  refine ⟨(la.mono hb).trans ⟨hg.os, hg.tape, hg.output, hg.size, fun i hi => ?_⟩, fun hne h => keep_own ho' hg hne (ownsS_ct h (CTs.of la))⟩
  cases hh : (W.alloc (.cells #[x] e)).heap[i]? with
  | none => have := Array.getElem?_eq_none_iff.1 hh; have := la.size; omega
  | some o => exact keep_row ho' hg hh (.inr hi)

set_option maxRecDepth 100000 in
set_option maxHeartbeats 8000000 in
theorem rlines_any (sb : Value) (zb : List Int) (w : World) (hB : Rd w.heap.size w sb zb) (hy : Mt.By zb) (hz : zb.length ≤ 100000) :
    Calls Tryd.prog 30 #[sb] w fun e w' => Later w w' ∧ ∃ v1 v2, e = .returned (.tuple #[v1, v2]) ∧ w'.ownsRow w.heap.size 9 1 v1 (dlB (strOfNums zb)).length (lvS (dlB (strOfNums zb))) ∧ w'.ownsRow w.heap.size 4 1 v2 (dlB (strOfNums zb)).length (lvE (dlB (strOfNums zb))) := by
  obtain ⟨ba, bcp, rfl, hbc1, hbc2⟩ := hB.slice
  obtain ⟨i1, hi1, hz11, hz12, hz13⟩ := info_partsS info_str14
  obtain ⟨i2, hi2, hz21, hz22, hz23⟩ := info_partsS info_bool14
  have hdl : (dlB (strOfNums zb)).length ≤ 100001 := by have := dlF_len (strOfNums zb).size (strOfNums zb); rw [strOfNums_size] at this; unfold dlB; rw [strOfNums_size]; omega
  have hB0 : Hid (Rd w.heap.size w (.slice ba zb.length bcp) (nmsB (strOfNums zb))) := by
    show Rd _ _ _ _
    rw [nmsB_str zb hy]; exact hB
  have hss : (strOfNums zb).size = zb.length := strOfNums_size zb
  generalize hDL : dlB (strOfNums zb) = dl at *
  have HDL := hide hDL
  clear hDL hB
  go_enter Tryd.func30, Tryd.ntmps30
  go_upto_region 3 with fail
  go_loopw [0, 4, 5] (fun rv ov ev wr => ∃ (t : ByteArray) (pre : List (ByteArray × Bool)), Below w.heap.size w wr ∧ t.size ≤ 100000 ∧ Hid (Rd w.heap.size wr rv (nmsB t)) ∧ Hid (wr.ownsRow w.heap.size 9 1 ov pre.length (lvS pre)) ∧ Hid (wr.ownsRow w.heap.size 4 1 ev pre.length (lvE pre)) ∧ Hid (pre ++ dlB t = dl)) (fun rv _ _ _ => match rv with | .slice _ n _ => n | _ => 0)
  case atStart => exact ⟨strOfNums zb, [], Below.refl _ _, by omega, hB0, hide ⟨rfl, .inl ⟨rfl, rfl⟩⟩, hide ⟨rfl, .inl ⟨rfl, rfl⟩⟩, by (show _ = _); rw [List.nil_append]; exact HDL.out⟩
  case round =>
    obtain ⟨t, pre, hbr, ht, HR, HO, HE, HD⟩ := hrel
    obtain ⟨ra, rc, e, _, _⟩ := HR.out.slice
    subst e
    obtain ⟨oa, oc, rfl⟩ := owns_form HO.out
    obtain ⟨ea, ec, rfl⟩ := owns_form HE.out
    have hpl : pre.length ≤ 100001 := by have := congrArg List.length HD.out; rw [List.length_append] at this; omega
    have HC2 := hide (rcut_any w.heap.size _ (nmsB t) wr hbr.size HR.out (nmsB_by t) (by rw [nmsB_len]; omega))
    rw [str_nms] at HC2
    have HTL := hide (nmsB_len t)
    have hbrs := hbr.size
    have HRR := hide HR.out
    generalize (nmsB t).length = tl at *
    go_wp2_with fail
    refine HC2.out.mono ?_
    rintro e w3 ⟨l3, v, rfl, hq⟩
    have L3 : Below w.heap.size w w3 := Below.trans hbr (l3.mono hbrs)
    have hs3 := L3.size
    have HO3 := hide (ownsS_ct HO.out (CTs.of l3))
    have HE3 := hide (ownsS_ct HE.out (CTs.of l3))
    have hR3' := hide (HRR.out.below (l3.mono hbrs))
    clear HC2 HO HE HR HRR
    have hlS : (lvS pre).length = pre.length := by unfold lvS; simp
    have hlE : (lvE pre).length = pre.length := by unfold lvE; simp
    rcases hq with ⟨hcf, vb, rfl, hR3⟩ | ⟨hcf, rfl⟩
    · have hf := congrArg ByteArray.size (cut_yes hcf)
      rw [ByteArray.size_append, ByteArray.size_append, show crB.size = 2 from rfl] at hf
      have HD2 : Hid ((pre ++ [(cutA t crB, true)]) ++ dlB (cutZ t crB) = dl) := by
        (show _ = _)
        rw [← HD.out, dlB_yes hcf]
        simp
      obtain ⟨za, zc, rfl, _, _⟩ := hR3.slice
      have HZL := hide (nmsB_len (cutZ t crB))
      have HRZ := hide hR3
      have hzs : (cutZ t crB).size < t.size := by omega
      clear hR3 hcf hf HD
      generalize cutA t crB = lt at *
      generalize cutZ t crB = z at *
      generalize (nmsB z).length = zl at *
      obtain ⟨a1, c1, W1, hr1, hO1, hg1⟩ := app1G (t := 80) Tryd.underlying80 hi1 hz11 hz12 hz13 (by decide) rfl (.string lt) rfl (by rw [hlS]; exact HO3.out) (by omega) hs3 80
      obtain ⟨k1, k1o⟩ := app1_keep (by rw [hlS]; exact HO3.out) hg1 hs3
      rw [hlS] at hr1 hO1
      have hE1 := k1o (by decide) HE3.out
      have hs1 : w.heap.size ≤ W1.heap.size := Nat.le_trans hs3 k1.size
      obtain ⟨a2, c2, W2, hr2, hO2, hg2⟩ := app1G (t := 81) Tryd.underlying81 hi2 hz21 hz22 hz23 (by decide) rfl (.bool true) rfl (by rw [hlE]; exact hE1) (by omega) hs1 81
      obtain ⟨k2, k2o⟩ := app1_keep (by rw [hlE]; exact hE1) hg2 hs1
      rw [hlE] at hr2 hO2
      have HO2 := hide (k2o (by decide) hO1)
      have HE2 := hide hO2
      have L5 : Below w.heap.size w W2 := L3.trans (k1.trans k2)
      have HRZ2 := hide (HRZ.out.below (k1.trans k2))
      have HR1 := hide hr1
      have HR2 := hide hr2
      clear hr1 hr2 hO1 hO2 hg1 hg2 k1o k2o k1 k2 hE1 HO3 HE3
      have HOF : Hid (W2.ownsRow w.heap.size 9 1 (.slice a1 (pre.length + 1) c1) (pre ++ [(lt, true)]).length (lvS (pre ++ [(lt, true)]))) := by
        have e1 : lvS (pre ++ [(lt, true)]) = lvS pre ++ [.string lt] := by unfold lvS; simp
        have e2 : (pre ++ [(lt, true)]).length = (lvS pre ++ [Value.string lt]).length := by unfold lvS; simp
        rw [e1, e2]; exact HO2
      have HEF : Hid (W2.ownsRow w.heap.size 4 1 (.slice a2 (pre.length + 1) c2) (pre ++ [(lt, true)]).length (lvE (pre ++ [(lt, true)]))) := by
        have e1 : lvE (pre ++ [(lt, true)]) = lvE pre ++ [.bool true] := by unfold lvE; simp
        have e2 : (pre ++ [(lt, true)]).length = (lvE pre ++ [Value.bool true]).length := by unfold lvE; simp
        rw [e1, e2]; exact HE2
      clear HO2 HE2
      go_upto_region 7 with (at_builtin; refine wpList_appT rfl (.tmp 25) (.tmp 27) 80 80 rfl _ _ rfl rfl _ _ HR1.out ?_)
      go_upto_region 8 with (at_builtin; refine wpList_appT rfl (.tmp 29) (.tmp 30) 81 81 rfl _ _ rfl rfl _ _ HR2.out ?_)
      go_wp2_with fail
      go_roundw
      case rel => exact ⟨z, pre ++ [(lt, true)], L5, by omega, HRZ2, HOF, HEF, HD2⟩
      case measure => (show zl < tl); rw [HZL.out, HTL.out]; exact hzs
    · have HD2 : Hid (pre ++ [(t, false)] = dl) := by
        (show _ = _)
        rw [← HD.out, dlB_no hcf]
      have hcv := conv_rd 22 9 5 Tryd.underlying22 Tryd.underlying5 Tryd.underlying9 hR3'.out
      rw [str_nms] at hcv
      clear hcf HD
      obtain ⟨a1, c1, W1, hr1, hO1, hg1⟩ := app1G (t := 80) Tryd.underlying80 hi1 hz11 hz12 hz13 (by decide) rfl (.string t) rfl (by rw [hlS]; exact HO3.out) (by omega) hs3 80
      obtain ⟨k1, k1o⟩ := app1_keep (by rw [hlS]; exact HO3.out) hg1 hs3
      rw [hlS] at hr1 hO1
      have hE1 := k1o (by decide) HE3.out
      have hs1 : w.heap.size ≤ W1.heap.size := Nat.le_trans hs3 k1.size
      obtain ⟨a2, c2, W2, hr2, hO2, hg2⟩ := app1G (t := 81) Tryd.underlying81 hi2 hz21 hz22 hz23 (by decide) rfl (.bool false) rfl (by rw [hlE]; exact hE1) (by omega) hs1 81
      obtain ⟨k2, k2o⟩ := app1_keep (by rw [hlE]; exact hE1) hg2 hs1
      rw [hlE] at hr2 hO2
      have L5 : Below w.heap.size w W2 := L3.trans (k1.trans k2)
      have HOF : Hid (W2.ownsRow w.heap.size 9 1 (.slice a1 (pre.length + 1) c1) dl.length (lvS dl)) := by
        have e1 : lvS (pre ++ [(t, false)]) = lvS pre ++ [.string t] := by unfold lvS; simp
        have e2 : (pre ++ [(t, false)]).length = (lvS pre ++ [Value.string t]).length := by unfold lvS; simp
        rw [← HD2.out, e1, e2]; exact k2o (by decide) hO1
      have HEF : Hid (W2.ownsRow w.heap.size 4 1 (.slice a2 (pre.length + 1) c2) dl.length (lvE dl)) := by
        have e1 : lvE (pre ++ [(t, false)]) = lvE pre ++ [.bool false] := by unfold lvE; simp
        have e2 : (pre ++ [(t, false)]).length = (lvE pre ++ [Value.bool false]).length := by unfold lvE; simp
        rw [← HD2.out, e1, e2]; exact hO2
      have HR1 := hide hr1
      have HR2 := hide hr2
      clear hr1 hr2 hO1 hO2 hg1 hg2 k1o k2o k1 k2 hE1 HO3 HE3
      go_wp2_with (at_builtin; first | refine wpList_appT rfl (.tmp 17) (.tmp 20) 80 80 rfl _ _ rfl rfl _ _ HR1.out ?_ | refine wpList_appT rfl (.tmp 22) (.tmp 23) 81 81 rfl _ _ rfl rfl _ _ HR2.out ?_)
      exact bodyPost_ret (v := .tuple #[.slice a1 (pre.length + 1) c1, .slice a2 (pre.length + 1) c2]) (by simp [results, Tryd.results30, go_sem]) rfl ⟨L5, _, _, rfl, HOF.out, HEF.out⟩
end Go.Proofs.YtehdgndbloaljaaDoor

/- The document's Ports. -/
namespace Go.Proofs.YtehdgndbloaljaaDoor
open Go.RowKit Go.Shelf
set_option maxRecDepth 100000
set_option linter.unusedVariables false
set_option linter.unusedSimpArgs false

/-- What a row of one's own holds. -/
theorem own_cellG {W : World} {base : Nat} {e : TypeId} {sa : Option Addr} {n cap : Nat} {xs : List Value} (h : W.ownsRow base e 1 (.slice sa n cap) n xs) (hn : 0 < xs.length) : ∃ g, sa = some ⟨g, 0, none⟩ ∧ ∀ j, j < xs.length → W.cell? ⟨g, j, none⟩ = xs[j]? := by
  obtain ⟨h1, ⟨e, h0⟩ | ⟨g, cap', cur, e, hg, hh, hl, hm, hs, hc⟩⟩ := h
  · cases e
    rw [h0] at h1
    omega
  · cases e
    refine ⟨g, rfl, fun j hj => ?_⟩
    rw [block_cell hh, ← hc, List.getElem?_take_of_lt (by rw [h1] at hj; omega)]
    simp
/-- Ports and address over the document's lines. -/
def ptD (l : List (ByteArray × Bool)) : List Int := l.foldl (fun acc x => ptS acc (x.1, crB)) []
def thD (h : ByteArray) (l : List (ByteArray × Bool)) : Bool := l.any fun x => eqS x.1 (cnB ++ h)
theorem ptD_snoc (l : List (ByteArray × Bool)) (x : ByteArray × Bool) : ptD (l ++ [x]) = ptS (ptD l) (x.1, crB) := by unfold ptD; simp
theorem thD_snoc (h : ByteArray) (l : List (ByteArray × Bool)) (x : ByteArray × Bool) : thD h (l ++ [x]) = (thD h l || eqS x.1 (cnB ++ h)) := by unfold thD; simp
theorem ptS_fst (acc : List Int) (x y : ByteArray × ByteArray) (h : x.1 = y.1) : ptS acc x = ptS acc y := by unfold ptS; rw [h]
theorem ptS_empty (acc : List Int) {s : ByteArray} (hs : s.size = 0) (z : ByteArray) : ptS acc (s, z) = acc := by unfold ptS; simp only; rw [md_begin (fun h => by omega)]
theorem eqS_empty {s h : ByteArray} (hs : s.size = 0) : eqS s (cnB ++ h) = false := by
  cases hq : eqS s (cnB ++ h) with
  | false => rfl
  | true =>
    have := congrArg ByteArray.size (eqS_iff.1 hq)
    rw [ByteArray.size_append, show cnB.size = 9 from rfl] at this
    omega
theorem pt_same : ∀ (n : Nat) (s : ByteArray), s.size ≤ n → ∀ acc, (dlB s).foldl (fun acc x => ptS acc (x.1, crB)) acc = (lnsB s).foldl ptS acc
  | n, s, hn, acc => by
    cases hf : cutF s crB with
    | false =>
      rw [dlB_no hf]
      by_cases h0 : s.size = 0
      · rw [lnsB_nil h0]
        exact ptS_empty acc h0 crB
      · obtain ⟨ha, hz⟩ := cut_no hf
        rw [lnsB_cons h0, ha, hz, lnsB_nil (s := ⟨#[]⟩) rfl]
        exact ptS_fst _ _ _ rfl
    | true =>
      have h0 : s.size ≠ 0 := fun h0 => by rw [cut_empty h0 (by decide)] at hf; cases hf
      have hz := (cut_sizes s crB).2 h0 (by decide)
      rw [dlB_yes hf, lnsB_cons h0]
      cases n with
      | zero => omega
      | succ n =>
        simp only [List.foldl_cons]
        rw [ptS_fst acc (cutA s crB, crB) (cutA s crB, betw s crB) rfl]
        exact pt_same n (cutZ s crB) (by omega) _
theorem th_same (h : ByteArray) : ∀ (n : Nat) (s : ByteArray), s.size ≤ n → thD h (dlB s) = thB h (lnsB s)
  | n, s, hn => by
    cases hf : cutF s crB with
    | false =>
      rw [dlB_no hf]
      by_cases h0 : s.size = 0
      · rw [lnsB_nil h0]
        unfold thD thB
        simp [eqS_empty h0]
      · obtain ⟨ha, hz⟩ := cut_no hf
        rw [lnsB_cons h0, ha, hz, lnsB_nil (s := ⟨#[]⟩) rfl]
        unfold thD thB
        simp
    | true =>
      have h0 : s.size ≠ 0 := fun h0 => by rw [cut_empty h0 (by decide)] at hf; cases hf
      have hz := (cut_sizes s crB).2 h0 (by decide)
      rw [dlB_yes hf, lnsB_cons h0]
      cases n with
      | zero => omega
      | succ n =>
        have ih := th_same h n (cutZ s crB) (by omega)
        unfold thD thB at ih ⊢
        simp only [List.any_cons]
        rw [ih]
theorem dlF_mem : ∀ (n : Nat) (s : ByteArray) (x : ByteArray × Bool), x ∈ dlF n s → x.1.size ≤ s.size
  | 0, s, x, h => by simp only [dlF, List.mem_singleton] at h; subst h; exact Nat.le_refl _
  | n + 1, s, x, h => by
    unfold dlF at h
    split at h
    · simp only [List.mem_singleton] at h; subst h; exact Nat.le_refl _
    · have hz := cut_size s crB
      rcases List.mem_cons.1 h with rfl | h
      · exact hz.1
      · have := dlF_mem n _ x h
        omega
theorem ptD_len : ∀ (n : Nat) (l : List (ByteArray × Bool)), l.length = n → (ptD l).length ≤ n
  | 0, l, h => by rw [List.eq_nil_of_length_eq_zero h]; exact Nat.le_refl _
  | n + 1, l, h => by
    rcases List.eq_nil_or_concat l with rfl | ⟨l', x, e⟩
    · cases h
    rw [List.concat_eq_append] at e
    subst e
    have h1 := ptD_len n l' (by simpa using h)
    have h2 := ptS_len (ptD l') (x.1, crB)
    rw [ptD_snoc]
    omega

set_option maxRecDepth 100000 in
set_option maxHeartbeats 8000000 in
theorem rports14_any (st : ByteArray) (sv sb : Value) (hs : List Hr) (zb : List Int) (h : Int) (w : World) (hH : RdM w.heap.size w sv hs) (hB : Rd w.heap.size w sb zb) (hy : Mt.By zb) (hz : zb.length ≤ 5000) (hh : 0 ≤ h ∧ h ≤ 4294967295) :
    Calls Tryd.prog 15 #[.agg #[.string st, sv, sb], .int .u32 h] w fun e w' => Later w w' ∧ ∃ v, e = .returned v ∧ w'.ownsRow w.heap.size 47 1 v (ptsB (adB h) (strOfNums zb)).length (u16v (ptsB (adB h) (strOfNums zb))) := by
  obtain ⟨sa, scp, rfl, hsc1, hsc2⟩ := hH.slice
  obtain ⟨ba, bcp, rfl, hbc1, hbc2⟩ := hB.slice
  obtain ⟨i1, hi1, hz11, hz12, hz13⟩ := info_partsS info_u16S
  have l0 : Later w (w.alloc (.cells #[.string st, .slice sa hs.length scp, .slice ba zb.length bcp] 31)) := later_allocR _ _
  have C0 := hide (heap_alloc_new w (.cells #[.string st, .slice sa hs.length scp, .slice ba zb.length bcp] 31))
  have HLN := hide (rlines_any _ zb _ (hB.later l0) hy (by omega))
  have hss : (strOfNums zb).size ≤ 5000 := by rw [strOfNums_size]; exact hz
  have HPT0 : Hid (ptsB (adB h) (strOfNums zb) = if thD (adB h) (dlB (strOfNums zb)) = true then ptD (dlB (strOfNums zb)) else []) := by
    (show _ = _)
    unfold ptsB
    rw [th_same (adB h) _ _ (Nat.le_refl _)]
    have := pt_same _ (strOfNums zb) (Nat.le_refl _) []
    unfold ptD ptL
    rw [this]
  have HDM : Hid (∀ x ∈ dlB (strOfNums zb), x.1.size ≤ 5000) := fun x hx => Nat.le_trans (dlF_mem _ _ x hx) hss
  have hdl : (dlB (strOfNums zb)).length ≤ 5001 := by have := dlF_len (strOfNums zb).size (strOfNums zb); unfold dlB; omega
  have HCO := hide (fun l W => rconn_any l h hh W)
  generalize ptsB (adB h) (strOfNums zb) = pts at *
  generalize dlB (strOfNums zb) = dl at *
  generalize adB h = host at *
  clear hss
  go_enter Tryd.func15, Tryd.ntmps15
  go_upto_region 3 with fail
  generalize hw0 : w.alloc _ = w0 at *
  have hl0s := l0.size
  generalize hgc : w.heap.size = gc at C0 ⊢
  have k0 := block_cell C0.out
  go_wp2_with fail
  refine HLN.out.mono ?_
  rintro e w1 ⟨l1, v1, v2, rfl, hrow1, hrow2⟩
  clear k0 HLN
  rw [← hgc]
  clear hgc C0
  have L1 : Below w.heap.size w w1 := Later.trans l0 l1
  have HS1 := hide (owns_mono (base' := w.heap.size) hrow1 hl0s)
  clear hrow1 hl0s hw0
  obtain ⟨la, lc, rfl⟩ := owns_form HS1.out
  obtain ⟨ea, ec, rfl⟩ := owns_form hrow2
  clear hrow2
  go_upto_region 5 with fail
  go_loopw [5, 6, 9] (fun ov sv iv wr => ∃ k : Nat, k ≤ dl.length ∧ iv = .int .i64 (k : Int) ∧ Below w.heap.size w wr ∧ (∃ v, ov = v ∧ Hid (wr.ownsRow w.heap.size 47 1 v (ptD (dl.take k)).length (u16v (ptD (dl.take k))))) ∧ sv = .bool (thD host (dl.take k)) ∧ Hid (wr.ownsRow w.heap.size 9 1 (.slice la dl.length lc) dl.length (lvS dl))) (fun _ _ iv _ => dl.length - (intOf iv).toNat)
  case atStart => exact ⟨0, by omega, rfl, L1, ⟨.slice none 0 0, rfl, hide ⟨rfl, .inl ⟨rfl, rfl⟩⟩⟩, rfl, HS1⟩
  case round =>
    obtain ⟨k, hk, rfl, M1, ⟨v, rfl, HO⟩, rfl, HS⟩ := hrel
    have hls : (lvS dl).length = dl.length := by unfold lvS; simp
    obtain ⟨oa, oc, rfl⟩ := owns_form HO.out
    by_cases hlt : k < dl.length
    · have hlt' : (k : Int) < (dl.length : Int) := by omega
      have hacl := ptD_len _ (dl.take k) rfl
      rw [List.length_take] at hacl
      have htk : dl.take (k + 1) = dl.take k ++ [dl[k]] := by rw [← List.take_append_getElem hlt]
      have HPT : Hid (ptD (dl.take (k + 1)) = ptS (ptD (dl.take k)) (dl[k].1, crB)) := by (show _ = _); rw [htk, ptD_snoc]
      have HTH : Hid (thD host (dl.take (k + 1)) = (thD host (dl.take k) || eqS dl[k].1 (cnB ++ host))) := by (show _ = _); rw [htk, thD_snoc]
      obtain ⟨g0, hga0, hgc0⟩ := own_cellG HS.out (by rw [hls]; omega)
      subst hga0
      have kl : wr.cell? ⟨g0, k, none⟩ = some (.string dl[k].1) := by
        rw [hgc0 k (by rw [hls]; exact hlt)]
        unfold lvS
        rw [List.getElem?_map, List.getElem?_eq_getElem hlt]
        rfl
      have hlk := HDM.out dl[k] (List.getElem_mem hlt)
      have HGC := hide hgc0
      clear htk hgc0
      generalize hlk0 : dl[k].1 = lk at *
      have HLK : Hid (∀ W : World, W.ownsRow w.heap.size 9 1 (.slice (some ⟨g0, 0, none⟩) dl.length lc) dl.length (lvS dl) → W.cell? ⟨g0, k, none⟩ = some (.string lk)) := fun W hW => by
        obtain ⟨g', e', hc'⟩ := own_cellG hW (by rw [hls]; omega)
        cases e'
        rw [hc' k (by rw [hls]; exact hlt)]
        unfold lvS
        rw [List.getElem?_map, List.getElem?_eq_getElem hlt, ← hlk0]
        rfl
      clear hlk0 HGC
      generalize hacd : ptD (dl.take k) = acc at *
      clear hacd
      have hal : (u16v acc).length = acc.length := by unfold u16v; simp
      have hac5 : acc.length ≤ 5001 := by omega
      generalize thD host (dl.take k) = b0 at *
      cases b0 with
      | true =>
        have HTN : Hid (thD host (dl.take (k + 1)) = true) := by (show _ = _); rw [HTH.out]; rfl
        clear HTH
        go_upto_region 8 with fail
        have w3 := wr
        have HO3 := HO
        have HS3 := HS
        have M3 := M1
        go_wp2_with fail
        refine (rmedia_any lk wr (by omega)).mono ?_
        rintro e w4 ⟨rfl, l4⟩
        have M4 : Below w.heap.size w w4 := Below.trans M3 (l4.mono M3.size)
        have HO4 := hide (ownsS_ct HO3.out (CTs.of l4))
        have HS4 := hide (ownsS_ct HS3.out (CTs.of l4))
        have hs4 := M4.size
        clear HO3 HS3 l4 kl
        cases mo : mdO lk with
        | none =>
          have HP2 : Hid (ptD (dl.take (k + 1)) = acc) := by (show _ = _); rw [HPT.out]; unfold ptS; simp only; rw [mo]
          clear HPT mo
          simp only [rmV]
          go_upto_region 10 with fail
          go_loopw [13, 14] (fun okv kv wq => ∃ j : Nat, okv = .bool false ∧ kv = .int .i64 (j : Int) ∧ j ≤ acc.length ∧ wq = w4) (fun _ kv _ => acc.length - (intOf kv).toNat)
          case atStart => exact ⟨0, rfl, rfl, by omega, rfl⟩
          case round =>
            obtain ⟨j, rfl, rfl, hj, hwq⟩ := hrel
            subst hwq
            by_cases hjl : j < acc.length
            · have hjl' : (j : Int) < (acc.length : Int) := by omega
              go_wp2_with fail
              go_roundw
              case rel => exact ⟨j + 1, rfl, by go_num, by omega, by first | trivial | rfl⟩
              case measure => simp [intOf]; omega
            · have hjl' : ¬ (j : Int) < (acc.length : Int) := by omega
              go_wp2_with fail
              go_roundw
              case rel => exact ⟨k + 1, by omega, by go_num, M4, by rw [HP2.out]; exact ⟨_, rfl, HO4⟩, by rw [HTN.out], HS4⟩
              case measure => simp [intOf]; omega
        | some m =>
          obtain ⟨ma, p, mb⟩ := m
          have hpr : 1 ≤ p ∧ p ≤ 65535 := (mdO_size mo).2.2
          have HPY : Hid (p ∈ acc → ptD (dl.take (k + 1)) = acc) := fun h => by rw [HPT.out]; unfold ptS; simp only; rw [mo]; simp [h]
          have HPN : Hid (p ∉ acc → ptD (dl.take (k + 1)) = acc ++ [p]) := fun h => by rw [HPT.out]; unfold ptS; simp only; rw [mo]; simp [h]
          clear HPT mo
          simp only [rmV]
          go_upto_region 10 with fail
          go_loopw [13, 14] (fun okv kv wq => ∃ j : Nat, okv = .bool (decide (p ∉ acc.take j)) ∧ kv = .int .i64 (j : Int) ∧ j ≤ acc.length ∧ wq = w4) (fun _ kv _ => acc.length - (intOf kv).toNat)
          case atStart => exact ⟨0, by simp, rfl, by omega, rfl⟩
          case round =>
            obtain ⟨j, rfl, rfl, hj, hwq⟩ := hrel
            subst hwq
            by_cases hjl : j < acc.length
            · have hjl' : (j : Int) < (acc.length : Int) := by omega
              have hst : (p ∉ acc.take (j + 1)) ↔ (p ∉ acc.take j ∧ acc[j]?.getD 0 ≠ p) := by
                rw [← List.take_append_getElem hjl, List.mem_append, List.mem_singleton, List.getElem?_eq_getElem hjl]
                simp only [Option.getD_some, not_or]
                exact ⟨fun h => ⟨h.1, fun e => h.2 e.symm⟩, fun h => ⟨h.1, fun e => h.2 e.symm⟩⟩
              have HST := hide hst
              obtain ⟨g, hga, hgc⟩ := own_cellG HO4.out (by rw [hal]; omega) 
              subst hga
              have hcell : wr.cell? ⟨g, j, none⟩ = some (.int .u16 (acc[j]?.getD 0)) := by
                rw [hgc j (by rw [hal]; exact hjl), List.getElem?_eq_getElem hjl]
                unfold u16v
                simp
              clear hst hgc
              generalize acc[j]?.getD 0 = y at *
              by_cases hin : p ∈ acc.take j
              · have d0 : decide (p ∉ acc.take j) = false := by simp [hin]
                rw [d0]
                have HNX : Hid (decide (p ∉ acc.take (j + 1)) = false) := by (show _ = _); rw [decide_eq_false_iff_not, HST.out]; exact fun h => h.1 hin
                clear HST hin d0
                go_wp2_with fail
                go_roundw
                case rel => exact ⟨j + 1, by rw [HNX.out], by go_num, by omega, by first | trivial | rfl⟩
                case measure => simp [intOf]; omega
              · have d0 : decide (p ∉ acc.take j) = true := by simp [hin]
                rw [d0]
                by_cases hyp : y = p
                · have HNX : Hid (decide (p ∉ acc.take (j + 1)) = false) := by (show _ = _); rw [decide_eq_false_iff_not, HST.out]; exact fun h => h.2 hyp
                  have t1 : (y != p) = false := by simp [hyp]
                  clear HST hin d0 hyp
                  go_wp2_with fail
                  go_roundw
                  case rel => exact ⟨j + 1, by rw [HNX.out], by go_num, by omega, by first | trivial | rfl⟩
                  case measure => simp [intOf]; omega
                · have HNX : Hid (decide (p ∉ acc.take (j + 1)) = true) := by (show _ = _); rw [decide_eq_true_eq, HST.out]; exact ⟨hin, hyp⟩
                  have t1 : (y != p) = true := by simp [hyp]
                  clear HST hin d0 hyp
                  go_wp2_with fail
                  go_roundw
                  case rel => exact ⟨j + 1, by rw [HNX.out], by go_num, by omega, by first | trivial | rfl⟩
                  case measure => simp [intOf]; omega
            · have hjl' : ¬ (j : Int) < (acc.length : Int) := by omega
              have hje : acc.take j = acc := List.take_of_length_le (by omega)
              rw [hje]
              by_cases hin : p ∈ acc
              · have d0 : decide (p ∉ acc) = false := by simp [hin]
                rw [d0]
                have HP2 := hide (HPY.out hin)
                clear HPY HPN hin d0
                go_wp2_with fail
                go_roundw
                case rel => exact ⟨k + 1, by omega, by go_num, M4, by rw [HP2.out]; exact ⟨_, rfl, HO4⟩, by rw [HTN.out], HS4⟩
                case measure => simp [intOf]; omega
              · have d0 : decide (p ∉ acc) = true := by simp [hin]
                rw [d0]
                have HP2 := hide (HPN.out hin)
                clear HPY HPN hin d0
                obtain ⟨a1, c1, W1, hr1, hO1, hg1⟩ := app1G (t := 43) Tryd.underlying43 hi1 hz11 hz12 hz13 (by decide) rfl (.int .u16 p) rfl (by rw [hal]; exact HO4.out) (by omega) hs4 43
                obtain ⟨k1, k1o⟩ := app1_keep (by rw [hal]; exact HO4.out) hg1 hs4
                rw [hal] at hr1 hO1
                have HS5 := hide (k1o (by decide) HS4.out)
                have M5 : Below w.heap.size w W1 := M4.trans k1
                have HOF : Hid (W1.ownsRow w.heap.size 47 1 (.slice a1 (acc.length + 1) c1) (acc ++ [p]).length (u16v (acc ++ [p]))) := by
                  have e1 : u16v (acc ++ [p]) = u16v acc ++ [.int .u16 p] := by unfold u16v; simp
                  have e2 : (acc ++ [p]).length = (u16v acc ++ [Value.int .u16 p]).length := by unfold u16v; simp
                  rw [e1, e2]; exact hO1
                have HR1 := hide hr1
                clear hr1 hO1 hg1 k1o k1
                go_upto_region 14 with fail
                go_wp2_with (at_builtin; refine wpList_appT rfl (.tmp 63) (.tmp 66) 43 43 rfl _ _ rfl rfl _ _ HR1.out ?_)
                go_roundw
                case rel => exact ⟨k + 1, by omega, by go_num, M5, by rw [HP2.out]; exact ⟨_, rfl, HOF⟩, by rw [HTN.out], HS5⟩
                case measure => simp [intOf]; omega
      | false =>
        have HTN : Hid (thD host (dl.take (k + 1)) = eqS lk (cnB ++ host)) := by (show _ = _); rw [HTH.out]; rfl
        clear HTH
        go_upto_region 7 with fail
        go_wp2_with fail
        refine (HCO.out lk wr).mono ?_
        rintro e w3 ⟨rfl, l3⟩
        generalize eqS lk (cnB ++ host) = bq at *
        have M3 : Below w.heap.size w w3 := Below.trans M1 (l3.mono M1.size)
        have HO3 := hide (ownsS_ct HO.out (CTs.of l3))
        have HS3 := hide (ownsS_ct HS.out (CTs.of l3))
        clear kl
        have kl := HLK.out w3 HS3.out
        clear HO HS l3
        go_upto_region 8 with fail
        go_wp2_with fail
        refine (rmedia_any lk w3 (by omega)).mono ?_
        rintro e w4 ⟨rfl, l4⟩
        have M4 : Below w.heap.size w w4 := Below.trans M3 (l4.mono M3.size)
        have HO4 := hide (ownsS_ct HO3.out (CTs.of l4))
        have HS4 := hide (ownsS_ct HS3.out (CTs.of l4))
        have hs4 := M4.size
        clear HO3 HS3 l4 kl
        cases mo : mdO lk with
        | none =>
          have HP2 : Hid (ptD (dl.take (k + 1)) = acc) := by (show _ = _); rw [HPT.out]; unfold ptS; simp only; rw [mo]
          clear HPT mo
          simp only [rmV]
          go_upto_region 10 with fail
          go_loopw [13, 14] (fun okv kv wq => ∃ j : Nat, okv = .bool false ∧ kv = .int .i64 (j : Int) ∧ j ≤ acc.length ∧ wq = w4) (fun _ kv _ => acc.length - (intOf kv).toNat)
          case atStart => exact ⟨0, rfl, rfl, by omega, rfl⟩
          case round =>
            obtain ⟨j, rfl, rfl, hj, hwq⟩ := hrel
            subst hwq
            by_cases hjl : j < acc.length
            · have hjl' : (j : Int) < (acc.length : Int) := by omega
              go_wp2_with fail
              go_roundw
              case rel => exact ⟨j + 1, rfl, by go_num, by omega, by first | trivial | rfl⟩
              case measure => simp [intOf]; omega
            · have hjl' : ¬ (j : Int) < (acc.length : Int) := by omega
              go_wp2_with fail
              go_roundw
              case rel => exact ⟨k + 1, by omega, by go_num, M4, by rw [HP2.out]; exact ⟨_, rfl, HO4⟩, by rw [HTN.out], HS4⟩
              case measure => simp [intOf]; omega
        | some m =>
          obtain ⟨ma, p, mb⟩ := m
          have hpr : 1 ≤ p ∧ p ≤ 65535 := (mdO_size mo).2.2
          have HPY : Hid (p ∈ acc → ptD (dl.take (k + 1)) = acc) := fun h => by rw [HPT.out]; unfold ptS; simp only; rw [mo]; simp [h]
          have HPN : Hid (p ∉ acc → ptD (dl.take (k + 1)) = acc ++ [p]) := fun h => by rw [HPT.out]; unfold ptS; simp only; rw [mo]; simp [h]
          clear HPT mo
          simp only [rmV]
          go_upto_region 10 with fail
          go_loopw [13, 14] (fun okv kv wq => ∃ j : Nat, okv = .bool (decide (p ∉ acc.take j)) ∧ kv = .int .i64 (j : Int) ∧ j ≤ acc.length ∧ wq = w4) (fun _ kv _ => acc.length - (intOf kv).toNat)
          case atStart => exact ⟨0, by simp, rfl, by omega, rfl⟩
          case round =>
            obtain ⟨j, rfl, rfl, hj, hwq⟩ := hrel
            subst hwq
            by_cases hjl : j < acc.length
            · have hjl' : (j : Int) < (acc.length : Int) := by omega
              have hst : (p ∉ acc.take (j + 1)) ↔ (p ∉ acc.take j ∧ acc[j]?.getD 0 ≠ p) := by
                rw [← List.take_append_getElem hjl, List.mem_append, List.mem_singleton, List.getElem?_eq_getElem hjl]
                simp only [Option.getD_some, not_or]
                exact ⟨fun h => ⟨h.1, fun e => h.2 e.symm⟩, fun h => ⟨h.1, fun e => h.2 e.symm⟩⟩
              have HST := hide hst
              obtain ⟨g, hga, hgc⟩ := own_cellG HO4.out (by rw [hal]; omega) 
              subst hga
              have hcell : wr.cell? ⟨g, j, none⟩ = some (.int .u16 (acc[j]?.getD 0)) := by
                rw [hgc j (by rw [hal]; exact hjl), List.getElem?_eq_getElem hjl]
                unfold u16v
                simp
              clear hst hgc
              generalize acc[j]?.getD 0 = y at *
              by_cases hin : p ∈ acc.take j
              · have d0 : decide (p ∉ acc.take j) = false := by simp [hin]
                rw [d0]
                have HNX : Hid (decide (p ∉ acc.take (j + 1)) = false) := by (show _ = _); rw [decide_eq_false_iff_not, HST.out]; exact fun h => h.1 hin
                clear HST hin d0
                go_wp2_with fail
                go_roundw
                case rel => exact ⟨j + 1, by rw [HNX.out], by go_num, by omega, by first | trivial | rfl⟩
                case measure => simp [intOf]; omega
              · have d0 : decide (p ∉ acc.take j) = true := by simp [hin]
                rw [d0]
                by_cases hyp : y = p
                · have HNX : Hid (decide (p ∉ acc.take (j + 1)) = false) := by (show _ = _); rw [decide_eq_false_iff_not, HST.out]; exact fun h => h.2 hyp
                  have t1 : (y != p) = false := by simp [hyp]
                  clear HST hin d0 hyp
                  go_wp2_with fail
                  go_roundw
                  case rel => exact ⟨j + 1, by rw [HNX.out], by go_num, by omega, by first | trivial | rfl⟩
                  case measure => simp [intOf]; omega
                · have HNX : Hid (decide (p ∉ acc.take (j + 1)) = true) := by (show _ = _); rw [decide_eq_true_eq, HST.out]; exact ⟨hin, hyp⟩
                  have t1 : (y != p) = true := by simp [hyp]
                  clear HST hin d0 hyp
                  go_wp2_with fail
                  go_roundw
                  case rel => exact ⟨j + 1, by rw [HNX.out], by go_num, by omega, by first | trivial | rfl⟩
                  case measure => simp [intOf]; omega
            · have hjl' : ¬ (j : Int) < (acc.length : Int) := by omega
              have hje : acc.take j = acc := List.take_of_length_le (by omega)
              rw [hje]
              by_cases hin : p ∈ acc
              · have d0 : decide (p ∉ acc) = false := by simp [hin]
                rw [d0]
                have HP2 := hide (HPY.out hin)
                clear HPY HPN hin d0
                go_wp2_with fail
                go_roundw
                case rel => exact ⟨k + 1, by omega, by go_num, M4, by rw [HP2.out]; exact ⟨_, rfl, HO4⟩, by rw [HTN.out], HS4⟩
                case measure => simp [intOf]; omega
              · have d0 : decide (p ∉ acc) = true := by simp [hin]
                rw [d0]
                have HP2 := hide (HPN.out hin)
                clear HPY HPN hin d0
                obtain ⟨a1, c1, W1, hr1, hO1, hg1⟩ := app1G (t := 43) Tryd.underlying43 hi1 hz11 hz12 hz13 (by decide) rfl (.int .u16 p) rfl (by rw [hal]; exact HO4.out) (by omega) hs4 43
                obtain ⟨k1, k1o⟩ := app1_keep (by rw [hal]; exact HO4.out) hg1 hs4
                rw [hal] at hr1 hO1
                have HS5 := hide (k1o (by decide) HS4.out)
                have M5 : Below w.heap.size w W1 := M4.trans k1
                have HOF : Hid (W1.ownsRow w.heap.size 47 1 (.slice a1 (acc.length + 1) c1) (acc ++ [p]).length (u16v (acc ++ [p]))) := by
                  have e1 : u16v (acc ++ [p]) = u16v acc ++ [.int .u16 p] := by unfold u16v; simp
                  have e2 : (acc ++ [p]).length = (u16v acc ++ [Value.int .u16 p]).length := by unfold u16v; simp
                  rw [e1, e2]; exact hO1
                have HR1 := hide hr1
                clear hr1 hO1 hg1 k1o k1
                go_upto_region 14 with fail
                go_wp2_with (at_builtin; refine wpList_appT rfl (.tmp 63) (.tmp 66) 43 43 rfl _ _ rfl rfl _ _ HR1.out ?_)
                go_roundw
                case rel => exact ⟨k + 1, by omega, by go_num, M5, by rw [HP2.out]; exact ⟨_, rfl, HOF⟩, by rw [HTN.out], HS5⟩
                case measure => simp [intOf]; omega
    · have hnl : ¬ (k : Int) < (dl.length : Int) := by omega
      have hkk : dl.take k = dl := List.take_of_length_le (by omega)
      rw [hkk] at HO ⊢
      clear hkk
      generalize ptD dl = acc at *
      generalize thD host dl = b0 at *
      cases b0 with
      | true =>
        go_wp2_with fail
        go_ret
        exact ⟨M1, _, rfl, by rw [HPT0.out]; exact HO.out⟩
      | false =>
        go_wp2_with fail
        go_ret
        exact ⟨M1, _, rfl, by rw [HPT0.out]; exact ⟨rfl, .inl ⟨rfl, rfl⟩⟩⟩
end Go.Proofs.YtehdgndbloaljaaDoor

/- A call's message, changed: mathematics. -/
namespace Go.Proofs.YtehdgndbloaljaaDoor
open Go.RowKit Go.Shelf
set_option maxRecDepth 100000
set_option linter.unusedVariables false
set_option linter.unusedSimpArgs false

/-- The lines of a call's body. -/
def cV0 : ByteArray := ⟨#[118, 61, 48]⟩
def cO1 : ByteArray := ⟨#[111, 61, 97, 32, 49, 32, 49]⟩
def cAu : ByteArray := ⟨#[109, 61, 97, 117, 100, 105, 111, 32]⟩
def cRt : ByteArray := ⟨#[32, 82, 84, 80, 47, 65, 86, 80, 32, 48]⟩
def cL2 (h : ByteArray) : ByteArray := cO1 ++ (omB ++ h)
def cL3 (h : ByteArray) : ByteArray := cnB ++ h
def cL4 (m : Nat) : ByteArray := cAu ++ (decB m ++ cRt)
def cBd (h : ByteArray) (m : Nat) : ByteArray := cV0 ++ (crB ++ (cL2 h ++ (crB ++ (cL3 h ++ (crB ++ (cL4 m ++ (crB ++ ⟨#[]⟩)))))))
def cTv : ByteArray := ⟨#[59, 98, 114, 97, 110, 99, 104, 61, 49]⟩
def cHs (h : ByteArray) (p m : Nat) : List Hr := [(viN, mkV ++ (plT h p ++ cTv)), (ctN, pfC ++ (mkC ++ (plT h p ++ tlC))), (clN, decB (cBd h m).size)]
def cSt : ByteArray := ⟨#[73, 78, 86, 73, 84, 69, 32, 115, 105, 112, 58, 98, 32, 83, 73, 80, 47, 50, 46, 48]⟩
theorem dgd_pl {s : ByteArray} (h : DgD s) : Pl s := fun hm => by have := h _ hm; revert this; decide
theorem pl_app {s t : ByteArray} (hs : Pl s) (ht : Pl t) : Pl (s ++ t) := by
  unfold Pl at *
  rw [ba_app]
  intro h
  rcases List.mem_append.1 h with q | q
  · exact hs q
  · exact ht q
theorem lns_step {a z : ByteArray} (h : Pl a) : lnsB (a ++ (crB ++ z)) = (a, crB) :: lnsB z := by
  obtain ⟨h1, h2, h3⟩ := cut_line (z := z) h
  have hc : crB.size = 2 := rfl
  rw [lnsB_cons (by rw [ByteArray.size_append, ByteArray.size_append]; omega), h2, h3, betw_yes h1]
theorem cL2_pl {h : ByteArray} (hd : DgD h) : Pl (cL2 h) := pl_app (by unfold Pl; decide) (pl_app (by unfold Pl; decide) (dgd_pl hd))
theorem cL3_pl {h : ByteArray} (hd : DgD h) : Pl (cL3 h) := pl_app (by unfold Pl; decide) (dgd_pl hd)
theorem cL4_pl (m : Nat) : Pl (cL4 m) := pl_app (by unfold Pl; decide) (pl_app (dgd_pl (decB_dgd m)) (by unfold Pl; decide))
theorem cBd_lns {h : ByteArray} (hd : DgD h) (m : Nat) : lnsB (cBd h m) = [(cV0, crB), (cL2 h, crB), (cL3 h, crB), (cL4 m, crB)] := by
  unfold cBd
  rw [lns_step (by unfold Pl; decide), lns_step (cL2_pl hd), lns_step (cL3_pl hd), lns_step (cL4_pl m), lnsB_nil (s := ⟨#[]⟩) rfl]
theorem head_ne {s t : ByteArray} {x y : UInt8} {l r : List UInt8} (hs : s.data.toList = x :: l) (ht : t.data.toList = y :: r) (h : x ≠ y) : eqS s t = false := by
  cases hq : eqS s t with
  | false => rfl
  | true =>
    have := eqS_iff.1 hq
    rw [this, ht] at hs
    simp only [List.cons.injEq] at hs
    exact absurd hs.1.symm h
theorem pre_ne {s p : ByteArray} {x y : UInt8} {l r : List UInt8} (hs : s.data.toList = x :: l) (hp : p.data.toList = y :: r) (h : x ≠ y) : hpB s p = false := by
  unfold hpB Lib.hasPrefix
  rw [hs, hp]
  show ((y == x) && _) = false
  rw [beq_false_of_ne (Ne.symm h)]
  rfl
theorem md_head {s : ByteArray} {x : UInt8} {l : List UInt8} (hs : s.data.toList = x :: l) (h : x ≠ 109) : mdO s = none := md_begin (fun hh => by
  have := hh.2.1
  rw [bAt_L s 0 (by rw [hs]; simp)] at this
  simp only [hs, List.getElem_cons_zero] at this
  exact h (UInt8.toNat_inj.1 (by have e : (109 : UInt8).toNat = 109 := rfl; omega)))
theorem cL4_md (m : Nat) (hm : 1 ≤ m ∧ m ≤ 65535) : mdO (cL4 m) = some (cAu, (m : Int), cRt) := by
  have hp : prV ⟨(decB m).data.toList.toArray⟩ = some (m : Int) := by
    rw [show (⟨(decB m).data.toList.toArray⟩ : ByteArray) = decB m from ba_ext (by simp)]
    unfold prV
    rw [numV_dg m 65535 (by omega)]
    simp
    omega
  have := md_make (l := cL4 m) (R := [97, 117, 100, 105, 111]) (A := (decB m).data.toList) (Z := [82, 84, 80, 47, 65, 86, 80, 32, 48]) (p := (m : Int)) (by
    unfold cL4
    rw [ba_app, ba_app]
    rfl) (by simp) (by decide +kernel) hp
  rw [this]
  rfl
section
variable {h t : Int} {p q m n : Nat} (hh : 0 ≤ h ∧ h ≤ 4294967295) (ht : 0 ≤ t ∧ t ≤ 4294967295) (hp : 1 ≤ p ∧ p ≤ 65535) (hq : 1 ≤ q ∧ q ≤ 65535) (hm : 1 ≤ m ∧ m ≤ 65535) (hn : 1 ≤ n ∧ n ≤ 65535)
theorem cL_v0 (c : Cg) : lnB c cV0 = cV0 := by
  unfold lnB
  rw [if_neg (by rw [head_ne (s := cV0) (t := cnB ++ c.host) (x := 118) (y := 99) (l := [61, 48]) (r := [61, 73, 78, 32, 73, 80, 52, 32] ++ c.host.data.toList) rfl (by rw [ba_app]; rfl) (by decide)]; simp), if_neg (by rw [pre_ne (s := cV0) (p := orB) (x := 118) (y := 111) (l := [61, 48]) (r := [61]) rfl rfl (by decide)]; simp), md_head (s := cV0) (x := 118) (l := [61, 48]) rfl (by decide)]
  rfl
theorem cL_2 (c : Cg) : lnB c (cL2 c.host) = cL2 c.is := by
  have e : (cL2 c.host).data.toList = 111 :: ([61, 97, 32, 49, 32, 49] ++ (omB.data.toList ++ c.host.data.toList)) := by unfold cL2; rw [ba_app, ba_app]; rfl
  have h1 : hpB (cL2 c.host) orB = true := by
    unfold hpB Lib.hasPrefix
    rw [List.isPrefixOf_iff_prefix, e]
    exact ⟨[97, 32, 49, 32, 49] ++ (omB.data.toList ++ c.host.data.toList), rfl⟩
  have h2 : hsB (cL2 c.host) (omB ++ c.host) = true := by
    unfold hsB Lib.hasSuffix
    rw [List.isSuffixOf_iff_suffix]
    exact ⟨cO1.data.toList, by unfold cL2; rw [ba_app cO1]⟩
  have h3 : tsB (cL2 c.host) c.host = cO1 ++ omB := by
    apply ba_ext
    unfold tsB Lib.trimSuffix
    have hs : Lib.hasSuffix (cL2 c.host).data.toList c.host.data.toList = true := by
      unfold Lib.hasSuffix
      rw [List.isSuffixOf_iff_suffix]
      exact ⟨(cO1 ++ omB).data.toList, by unfold cL2; rw [ba_app cO1, ba_app cO1, ba_app]; simp⟩
    rw [if_pos hs]
    show ((cL2 c.host).data.toList.take _) = _
    have e2 : (cL2 c.host).data.toList = (cO1 ++ omB).data.toList ++ c.host.data.toList := by unfold cL2; rw [ba_app cO1, ba_app cO1, ba_app]; simp
    rw [e2, List.length_append, Nat.add_sub_cancel, List.take_left]
  unfold lnB
  rw [if_neg (by rw [head_ne (t := cnB ++ c.host) (x := 111) (y := 99) e (r := [61, 73, 78, 32, 73, 80, 52, 32] ++ c.host.data.toList) (by rw [ba_app]; rfl) (by decide)]; simp), if_pos ⟨h1, h2⟩, h3]
  unfold cL2
  simp only [ByteArray.append_assoc]
theorem cL_3 (c : Cg) : lnB c (cL3 c.host) = cL3 c.is := by
  unfold lnB cL3
  rw [if_pos (eqS_iff.2 rfl)]
include hm in
theorem cL_4 (c : Cg) (hc : c.media = [((m : Int), (n : Int))]) : lnB c (cL4 m) = cL4 n := by
  have e : (cL4 m).data.toList = 109 :: ([61, 97, 117, 100, 105, 111, 32] ++ ((decB m).data.toList ++ cRt.data.toList)) := by unfold cL4; rw [ba_app, ba_app]; rfl
  unfold lnB
  rw [if_neg (by rw [head_ne (t := cnB ++ c.host) (x := 109) (y := 99) e (r := [61, 73, 78, 32, 73, 80, 52, 32] ++ c.host.data.toList) (by rw [ba_app]; rfl) (by decide)]; simp), if_neg (by rw [pre_ne (p := orB) (x := 109) (y := 111) e (r := [61]) rfl (by decide)]; simp), cL4_md m hm]
  simp only [mlB]
  have : inB c.media (m : Int) = (n : Int) := by rw [hc]; unfold inB; simp
  rw [this, Int.toNat_natCast]
  unfold cL4
  rw [ByteArray.append_assoc]
include hm in
theorem cBd_change (c : Cg) (hd : DgD c.host) (hc : c.media = [((m : Int), (n : Int))]) : bdB c (cBd c.host m) = cBd c.is n := by
  unfold bdB
  rw [cBd_lns hd]
  unfold bdL
  simp only [List.foldl_cons, List.foldl_nil]
  rw [cL_v0, cL_2, cL_3, cL_4 hm c hc]
  unfold cBd
  rw [bnil_app]
  simp only [ByteArray.append_assoc]
  rw [show crB ++ (⟨#[]⟩ : ByteArray) = crB from rfl]
include hm in
theorem cBd_ports (hd : DgD (adB h)) : ptsB (adB h) (cBd (adB h) m) = [(m : Int)] := by
  have h3 : thB (adB h) (lnsB (cBd (adB h) m)) = true := by
    rw [cBd_lns hd]
    unfold thB
    simp only [List.any_cons]
    have : eqS (cL3 (adB h)) (cnB ++ adB h) = true := eqS_iff.2 rfl
    rw [this]
    simp
  unfold ptsB
  rw [if_pos h3, cBd_lns hd]
  unfold ptL
  simp only [List.foldl_cons, List.foldl_nil]
  have e2 : mdO (cL2 (adB h)) = none := md_head (x := 111) (l := [61, 97, 32, 49, 32, 49] ++ (omB.data.toList ++ (adB h).data.toList)) (by unfold cL2; rw [ba_app, ba_app]; rfl) (by decide)
  have e3 : mdO (cL3 (adB h)) = none := md_head (x := 99) (l := [61, 73, 78, 32, 73, 80, 52, 32] ++ (adB h).data.toList) (by unfold cL3; rw [ba_app]; rfl) (by decide)
  have e1 : mdO cV0 = none := md_head (s := cV0) (x := 118) (l := [61, 48]) rfl (by decide)
  unfold ptS
  simp only [e1, e2, e3, cL4_md m hm]
  rfl
include hh hm in
theorem cBd_size : (cBd (adB h) m).size ≤ 200 := by
  have h1 := adB_size h hh
  have h2 := decB_size m (by omega)
  unfold cBd cL2 cL3 cL4
  simp only [ByteArray.size_append]
  have z1 : cV0.size = 3 := rfl
  have z2 : crB.size = 2 := rfl
  have z3 : cO1.size = 7 := rfl
  have z4 : omB.size = 8 := rfl
  have z5 : cnB.size = 9 := rfl
  have z6 : cAu.size = 8 := rfl
  have z7 : cRt.size = 10 := rfl
  have z8 : ByteArray.size ⟨#[]⟩ = 0 := rfl
  omega
include hh hp hm in
/-- A call's message is right. -/
theorem cM_right : rgB cSt (cHs (adB h) p m) (cBd (adB h) m).size = true := by
  have hbs := cBd_size hh hm
  have hps := plT_size h hh p (by omega)
  have hln := plT_ln h p
  unfold cHs
  generalize (cBd (adB h) m).size = nb at *
  generalize plT (adB h) p = pl at *
  have e1 : vlB (mkV ++ (pl ++ cTv)) = true := by
    refine vlB_mid (a := pl) (b := pl) (x := 83) (y := 49) (l := [73, 80, 47, 50, 46, 48, 47, 85, 68, 80, 32] ++ (pl.data.toList ++ cTv.data.toList)) (l2 := mkV.data.toList ++ (pl.data.toList ++ [59, 98, 114, 97, 110, 99, 104, 61])) ?_ ?_ (by decide) (by decide) ?_
    · rw [ba_app, ba_app]; rfl
    · rw [ba_app, ba_app]; simp [cTv]
    · rw [nmsB_app, nmsB_app, List.all_append, List.all_append, hln]; decide
  have e2 : vlB (pfC ++ (mkC ++ (pl ++ tlC))) = true := by
    refine vlB_mid (a := pl) (b := pl) (x := 60) (y := 62) (l := [115, 105, 112, 58, 97] ++ (mkC.data.toList ++ (pl.data.toList ++ [62]))) (l2 := pfC.data.toList ++ (mkC.data.toList ++ pl.data.toList)) ?_ ?_ (by decide) (by decide) ?_
    · rw [ba_app, ba_app, ba_app]; rfl
    · rw [ba_app, ba_app, ba_app]; simp [tlC]
    · rw [nmsB_app, nmsB_app, nmsB_app, List.all_append, List.all_append, List.all_append, hln]; decide
  have e3 : vlB (decB nb) = true := by
    have hd := decB_dgd nb
    have h1 : Lib.hasPrefix (decB nb).data.toList [32] = false := by
      cases hc : Lib.hasPrefix (decB nb).data.toList [32] with
      | false => rfl
      | true =>
        unfold Lib.hasPrefix at hc
        rw [List.isPrefixOf_iff_prefix] at hc
        obtain ⟨r, hr⟩ := hc
        have := hd 32 (by rw [← hr]; simp)
        revert this; decide
    have h2 : Lib.hasSuffix (decB nb).data.toList [32] = false := by
      cases hc : Lib.hasSuffix (decB nb).data.toList [32] with
      | false => rfl
      | true =>
        unfold Lib.hasSuffix at hc
        rw [List.isSuffixOf_iff_suffix] at hc
        obtain ⟨r, hr⟩ := hc
        have := hd 32 (by rw [← hr]; simp)
        revert this; decide
    unfold vlB
    rw [allB_nms, dgd_ln hd, h1, h2]
    rfl
  have n1 : allN nmC viN = true := by decide +kernel
  have n2 : allN nmC ctN = true := by decide +kernel
  have n3 : allN nmC clN = true := by decide +kernel
  have s1 : swV viN clN = false := by decide +kernel
  have s2 : swV ctN clN = false := by decide +kernel
  have s3 : swV clN clN = true := by decide +kernel
  have hst : allB lnC cSt = true := by decide +kernel
  have o1 : okh nb (viN, mkV ++ (pl ++ cTv)) = true := by unfold okh; rw [n1, e1, s1]; rfl
  have o2 : okh nb (ctN, pfC ++ (mkC ++ (pl ++ tlC))) = true := by unfold okh; rw [n2, e2, s2]; rfl
  have o3 : okh nb (clN, decB nb) = true := by unfold okh; rw [n3, e3, s3, eqS_iff.2 rfl]; rfl
  have hs : szM cSt [(viN, mkV ++ (pl ++ cTv)), (ctN, pfC ++ (mkC ++ (pl ++ tlC))), (clN, decB nb)] nb ≤ 4096 := by
    have hd := decB_size nb (by omega)
    unfold szM hsz
    simp only [List.map_cons, List.map_nil, List.sum_cons, List.sum_nil, ByteArray.size_append]
    have z1 : viN.size = 3 := rfl
    have z2 : ctN.size = 7 := rfl
    have z3 : clN.size = 14 := rfl
    have z4 : mkV.size = 12 := rfl
    have z5 : cTv.size = 9 := rfl
    have z6 : pfC.size = 6 := rfl
    have z7 : mkC.size = 1 := rfl
    have z8 : tlC.size = 1 := rfl
    have z9 : cSt.size = 20 := rfl
    omega
  unfold rgB rhB
  rw [hst, decide_eq_true hs]
  have ha : ([(viN, mkV ++ (pl ++ cTv)), (ctN, pfC ++ (mkC ++ (pl ++ tlC))), (clN, decB nb)] : List Hr).all (okh nb) = true := by simp only [List.all_cons, List.all_nil, o1, o2, o3]; rfl
  have hc : ([(viN, mkV ++ (pl ++ cTv)), (ctN, pfC ++ (mkC ++ (pl ++ tlC))), (clN, decB nb)] : List Hr).countP (fun h => swV h.1 clN) = 1 := by simp [List.countP_cons, s1, s2, s3]
  rw [ha, hc]
  rfl
include hh ht hp hq hm hn in
/-- Rewritten it is the other call's. -/
theorem cM_change : rwHs (cgOf h t (p : Int) (q : Int) [((m : Int), (n : Int))]) cSt (cHs (adB h) p m) (nmsB (cBd (adB h) m)) = cHs (adB t) q n ∧ rwZb (cgOf h t (p : Int) (q : Int) [((m : Int), (n : Int))]) cSt (cHs (adB h) p m) (nmsB (cBd (adB h) m)) = nmsB (cBd (adB t) n) := by
  have hb : bdB (cgOf h t (p : Int) (q : Int) [((m : Int), (n : Int))]) (strOfNums (nmsB (cBd (adB h) m))) = cBd (adB t) n := by
    rw [str_nms]
    exact cBd_change hm (cgOf h t (p : Int) (q : Int) [((m : Int), (n : Int))]) (adB_dgd h) rfl
  have hw1 := wiB_at (c := cgOf h t (p : Int) (q : Int) [((m : Int), (n : Int))]) (adB_dgd h) hp rfl (mkV ++ (plT (adB h) p ++ cTv)) ⟨#[]⟩ mkV enV cTv (.inl rfl) (by rw [bnil_app]; rfl) (fun j hj => absurd hj (Nat.not_lt_zero j)) (by decide) (by decide +kernel)
  have hw2 := wiB_at (c := cgOf h t (p : Int) (q : Int) [((m : Int), (n : Int))]) (adB_dgd h) hp rfl (pfC ++ (mkC ++ (plT (adB h) p ++ tlC))) pfC mkC enK tlC (.inr rfl) rfl (by rw [ba_app]; exact noOcc1 (by decide)) (by decide) (by decide +kernel)
  rw [bnil_app] at hw1
  have hmg : mgH (cgOf h t (p : Int) (q : Int) [((m : Int), (n : Int))]) (cBd (adB t) n).size (cHs (adB h) p m) = cHs (adB t) q n := by
    have s1 : swV viN viN = true := by decide +kernel
    have s2 : swV ctN viN = false := by decide +kernel
    have s3 : swV ctN ctN = true := by decide +kernel
    have s4 : swV clN viN = false := by decide +kernel
    have s5 : swV clN ctN = false := by decide +kernel
    have s6 : swV clN clN = true := by decide +kernel
    unfold mgH cHs vuB
    simp only [List.map_cons, List.map_nil, s1, s2, s3, s4, s5, s6, if_true, Bool.false_eq_true, if_false, hw1, hw2]
    rfl
  have r1 := cM_right hh hp hm
  have r2 := cM_right ht hq hn
  have hok : rwOk (cgOf h t (p : Int) (q : Int) [((m : Int), (n : Int))]) cSt (cHs (adB h) p m) (nmsB (cBd (adB h) m)) = true := by
    unfold rwOk
    rw [hb, hmg, nmsB_len, r1, r2]
    rfl
  unfold rwHs rwZb
  rw [if_pos hok, if_pos hok, hb, hmg]
  exact ⟨rfl, rfl⟩
end
end Go.Proofs.YtehdgndbloaljaaDoor

/- Package ftp: Text of two kinds; the law's call. -/
namespace Go.Proofs.YtehdgndbloaljaaDoor
open Go.RowKit Go.Shelf
set_option maxRecDepth 100000
set_option linter.unusedVariables false
set_option linter.unusedSimpArgs false

def tOn2 : ByteArray := ⟨#[124, 49, 124]⟩
def tBr2 : ByteArray := ⟨#[124]⟩
/-- An address and a port between bars. -/
def t2B (a : Int) (n : Nat) : ByteArray := tOn2 ++ rowB tDot (ad4 a) ++ tBr2 ++ decB n ++ tBr2

set_option maxHeartbeats 4000000 in
theorem text4_any (a : Int) (n : Nat) (w : World) (hT : TabI w) (hn : n ≤ 65535) :
    Calls Tryd.prog 36 #[.int .i64 4, .int .u32 a, .int .u16 (n : Int)] w fun e w' => ∃ x c, e = .returned (.slice x (nmsB (decB n)).length c) ∧ Rd w'.heap.size w' (.slice x (nmsB (decB n)).length c) (nmsB (decB n)) ∧ Below w.heap.size w w' := by
  have HI := hide (itoa_any n w hT (by omega))
  have hs := decB_size n hn
  have hcv := fun W => Lib.run_convert_string_bytes (P := Tryd.prog) W 9 22 5 (decB n) Tryd.underlying9 Tryd.underlying22 Tryd.underlying5
  have HR := hide (fun W => conv_rdS W 5 (decB n) (by omega))
  have HLn := hide (nmsB_len (decB n))
  generalize decB n = s at *
  have HS := hide hs
  clear hs
  go_enter Tryd.func36, Tryd.ntmps36
  go_wp2_with fail
  refine HI.out.mono ?_
  rintro e w1 ⟨rfl, b1⟩
  go_wp2_with fail
  go_ret
  rw [HLn.out]
  exact ⟨_, _, rfl, HR.out w1, Later.trans b1 (conv_later w1 _ s)⟩

set_option maxHeartbeats 4000000 in
theorem text2_any (a : Int) (h : 0 ≤ a ∧ a ≤ 4294967295) (n : Nat) (w : World) (hT : TabI w) (hn : n ≤ 65535) :
    Calls Tryd.prog 36 #[.int .i64 2, .int .u32 a, .int .u16 (n : Int)] w fun e w' => ∃ x c, e = .returned (.slice x (nmsB (t2B a n)).length c) ∧ Rd w'.heap.size w' (.slice x (nmsB (t2B a n)).length c) (nmsB (t2B a n)) ∧ Below w.heap.size w w' := by
  have HA := hide (address_any a h w hT)
  have HIT := hide (fun W (l : Later w W) => itoa_any n W (hT.later l) (by omega))
  have hs1 := rowB_size tDot (ad4 a) (ad4_by a h)
  have hs2 := decB_size n hn
  have hsz : (t2B a n).size ≤ 100 := by
    unfold t2B
    simp only [ByteArray.size_append]
    have : tOn2.size = 3 := rfl
    have : tBr2.size = 1 := rfl
    have h3 : (ad4 a).length * (5 + tDot.size) = 24 := rfl
    omega
  have hcv := fun W => Lib.run_convert_string_bytes (P := Tryd.prog) W 9 22 5 (t2B a n) Tryd.underlying9 Tryd.underlying22 Tryd.underlying5
  have HR := hide (fun W => conv_rdS W 5 (t2B a n) (by omega))
  have HLn := hide (nmsB_len (t2B a n))
  have hE : t2B a n = tOn2 ++ rowB tDot (ad4 a) ++ tBr2 ++ decB n ++ tBr2 := rfl
  rw [hE] at hcv
  unfold tOn2 tBr2 at hcv
  have HE := hide hE
  have hs1' : (rowB tDot (ad4 a)).size ≤ 24 := hs1
  generalize rowB tDot (ad4 a) = rb at *
  generalize decB n = s at *
  have q1 : (rb.size : Int) ≤ 24 := by omega
  have q2 : (s.size : Int) ≤ 5 := by omega
  clear hE hs1 hs2 hsz hT
  go_enter Tryd.func36, Tryd.ntmps36
  go_wp2_with fail
  refine HA.out.mono ?_
  rintro e w1 ⟨rfl, b1⟩
  go_wp2_with fail
  refine (HIT.out w1 b1).mono ?_
  rintro e w2 ⟨rfl, b2⟩
  have l2 : Later w w2 := Later.trans b1 b2
  go_wp2_with fail
  go_ret
  rw [HLn.out]
  have e : ((⟨#[124, 49, 124]⟩ : ByteArray) ++ rb ++ ⟨#[124]⟩ ++ s ++ ⟨#[124]⟩) = t2B a n := HE.out.symm
  have hsz2 : 3 + rb.size + 1 + s.size + 1 = (t2B a n).size := by rw [← e]; simp only [ByteArray.size_append]; rfl
  rw [e]
  refine ⟨some ⟨w2.heap.size, 0, none⟩, grownCap w2 (t2B a n).size 0 5, ?_, HR.out w2, Later.trans l2 (conv_later w2 _ _)⟩
  rw [← hsz2]
  rfl
theorem t2B_host (a : Int) : (t2B a 1).extract 3 ((t2B a 1).size - 3) = adB a := by
  apply ba_ext
  have hd : (decB 1).data.toList = [49] := by decide +kernel
  have e : (t2B a 1).data.toList = [124, 49, 124] ++ ((adB a).data.toList ++ [124, 49, 124]) := by
    unfold t2B
    rw [ba_app, ba_app, ba_app, ba_app, hd]
    simp [tOn2, tBr2, adB]
  have hs : (t2B a 1).size = 3 + ((adB a).data.toList.length + 3) := by rw [ba_len, e]; simp; omega
  rw [ba_ext_list, hs, e]
  rw [show 3 + ((adB a).data.toList.length + 3) - 3 = 3 + (adB a).data.toList.length from by omega]
  rw [← List.append_assoc, List.take_left' (by simp; omega), List.drop_left' (by simp)]
theorem t2B_size (a : Int) (h : 0 ≤ a ∧ a ≤ 4294967295) : 6 ≤ (t2B a 1).size ∧ (t2B a 1).size ≤ 40 := by
  have h1 := rowB_size tDot (ad4 a) (ad4_by a h)
  have h2 : (decB 1).size = 1 := by decide +kernel
  have h3 : (ad4 a).length * (5 + tDot.size) = 24 := rfl
  unfold t2B
  simp only [ByteArray.size_append]
  have z1 : tOn2.size = 3 := rfl
  have z2 : tBr2.size = 1 := rfl
  omega

set_option maxRecDepth 100000 in
set_option maxHeartbeats 8000000 in
theorem call_any (a : Int) (h : 0 ≤ a ∧ a ≤ 4294967295) (p m : Nat) (hp : 1 ≤ p ∧ p ≤ 65535) (hm : 1 ≤ m ∧ m ≤ 65535) (w : World) (hT : TabI w) :
    Calls Tryd.prog 18 #[.int .u32 a, .int .u16 (p : Int), .int .u16 (m : Int)] w fun e w' => Later w w' ∧ ∃ vh vb, e = .returned (.agg #[.string cSt, vh, vb]) ∧ RdM w'.heap.size w' vh (cHs (adB a) p m) ∧ Rd w'.heap.size w' vb (nmsB (cBd (adB a) m)) := by
  have l0 : Later w (w.alloc (.cells #[.string ⟨#[]⟩, .slice none 0 0, .slice none 0 0] 25)) := later_allocR _ _
  have C0 := hide (heap_alloc_new w (.cells #[.string ⟨#[]⟩, .slice none 0 0, .slice none 0 0] 25))
  have HT2 := hide (fun W (l : Later w W) => text2_any a h 1 W (hT.later l) (by omega))
  have HT4 := hide (fun W (l : Later w W) n (hn : n ≤ 65535) => text4_any 0 n W (hT.later l) hn)
  have HX := hide (t2B_host a)
  obtain ⟨hx1, hx2⟩ := t2B_size a h
  have hbz := cBd_size h hm
  have has := adB_size a h
  have hps := decB_size p (by omega)
  have hms := decB_size m (by omega)
  have HBD : Hid (cBd (adB a) m = ⟨#[118, 61, 48, 13, 10, 111, 61, 97, 32, 49, 32, 49, 32, 73, 78, 32, 73, 80, 52, 32]⟩ ++ adB a ++ ⟨#[13, 10, 99, 61, 73, 78, 32, 73, 80, 52, 32]⟩ ++ adB a ++ ⟨#[13, 10, 109, 61, 97, 117, 100, 105, 111, 32]⟩ ++ decB m ++ ⟨#[32, 82, 84, 80, 47, 65, 86, 80, 32, 48, 13, 10]⟩) := by
    (show _ = _)
    apply ba_ext
    unfold cBd cL2 cL3 cL4
    simp [ba_app, cV0, cO1, omB, cnB, cAu, cRt, crB]
  have HHS : Hid (cHs (adB a) p m = [(⟨#[86, 105, 97]⟩, ⟨#[83, 73, 80, 47, 50, 46, 48, 47, 85, 68, 80, 32]⟩ ++ adB a ++ ⟨#[58]⟩ ++ decB p ++ ⟨#[59, 98, 114, 97, 110, 99, 104, 61, 49]⟩), (⟨#[67, 111, 110, 116, 97, 99, 116]⟩, ⟨#[60, 115, 105, 112, 58, 97, 64]⟩ ++ adB a ++ ⟨#[58]⟩ ++ decB p ++ ⟨#[62]⟩), (⟨#[67, 111, 110, 116, 101, 110, 116, 45, 76, 101, 110, 103, 116, 104]⟩, decB (cBd (adB a) m).size)]) := by
    (show _ = _)
    unfold cHs
    have e1 : mkV ++ (plT (adB a) p ++ cTv) = ⟨#[83, 73, 80, 47, 50, 46, 48, 47, 85, 68, 80, 32]⟩ ++ adB a ++ ⟨#[58]⟩ ++ decB p ++ ⟨#[59, 98, 114, 97, 110, 99, 104, 61, 49]⟩ := by
      apply ba_ext
      unfold plT
      simp [ba_app, mkV, cln, cTv]
    have e2 : pfC ++ (mkC ++ (plT (adB a) p ++ tlC)) = ⟨#[60, 115, 105, 112, 58, 97, 64]⟩ ++ adB a ++ ⟨#[58]⟩ ++ decB p ++ ⟨#[62]⟩ := by
      apply ba_ext
      unfold plT
      simp [ba_app, pfC, mkC, cln, tlC]
    rw [e1, e2]
    rfl
  generalize hbd : cBd (adB a) m = bd at *
  clear hbd
  generalize cHs (adB a) p m = chs at *
  generalize adB a = host at *
  generalize t2B a 1 = X at *
  go_enter Tryd.func18, Tryd.ntmps18
  go_upto_region 1 with fail
  generalize w.alloc _ = w0 at *
  generalize hgc : w.heap.size = gc at C0 ⊢
  go_wp2_with fail
  refine (HT2.out w0 l0).mono ?_
  rintro e w1 ⟨x1, c1, rfl, hR1, b1⟩
  have L1 : Later w w1 := Later.trans l0 b1
  have hcv1 := conv_rd 22 9 5 Tryd.underlying22 Tryd.underlying5 Tryd.underlying9 hR1
  rw [str_nms] at hcv1
  generalize (nmsB X).length = nx at *
  clear hR1
  go_upto_region 2 with fail
  clear hcv1
  have hxx : (X.size : Int) - 3 = ((X.size - 3 : Nat) : Int) := by omega
  have hxl : X.size - 3 ≤ X.size := by omega
  have hx3 : 3 ≤ X.size - 3 := by omega
  go_upto_region 3 with fail
  rw [HX.out]
  clear hxx hxl hx3 hx1 hx2 HX
  go_wp2_with fail
  refine (HT4.out w1 L1 p (by omega)).mono ?_
  rintro e w2 ⟨x2, c2, rfl, hR2, b2⟩
  have L2 : Later w w2 := L1.trans b2
  have hcv2 := conv_rd 22 9 5 Tryd.underlying22 Tryd.underlying5 Tryd.underlying9 hR2
  rw [str_nms] at hcv2
  generalize (nmsB (decB p)).length = n2 at *
  generalize decB p = dp at *
  clear hR2
  go_upto_region 4 with fail
  clear hcv2
  have e20 : ByteArray.size ⟨#[118, 61, 48, 13, 10, 111, 61, 97, 32, 49, 32, 49, 32, 73, 78, 32, 73, 80, 52, 32]⟩ = 20 := rfl
  have e11 : ByteArray.size ⟨#[13, 10, 99, 61, 73, 78, 32, 73, 80, 52, 32]⟩ = 11 := rfl
  have e10 : ByteArray.size ⟨#[13, 10, 109, 61, 97, 117, 100, 105, 111, 32]⟩ = 10 := rfl
  have e12 : ByteArray.size ⟨#[32, 82, 84, 80, 47, 65, 86, 80, 32, 48, 13, 10]⟩ = 12 := rfl
  go_wp2_with fail
  refine (HT4.out w2 L2 m (by omega)).mono ?_
  rintro e w3 ⟨x3, c3, rfl, hR3, b3⟩
  have L3 : Later w w3 := L2.trans b3
  have hcv3 := conv_rd 22 9 5 Tryd.underlying22 Tryd.underlying5 Tryd.underlying9 hR3
  rw [str_nms] at hcv3
  generalize (nmsB (decB m)).length = n3 at *
  generalize decB m = dm at *
  clear hR3
  go_upto_region 5 with fail
  clear hcv3 e20 e11 e10 e12
  rw [← HBD.out]
  clear HBD
  have f12 : ByteArray.size ⟨#[83, 73, 80, 47, 50, 46, 48, 47, 85, 68, 80, 32]⟩ = 12 := rfl
  have f9 : ByteArray.size ⟨#[59, 98, 114, 97, 110, 99, 104, 61, 49]⟩ = 9 := rfl
  have f7 : ByteArray.size ⟨#[60, 115, 105, 112, 58, 97, 64]⟩ = 7 := rfl
  have f1 : ByteArray.size ⟨#[58]⟩ = 1 := rfl
  have f2 : ByteArray.size ⟨#[62]⟩ = 1 := rfl
  have hb2 : (bd.size : Int) ≤ 200 := by omega
  have HW : Hid (IntKind.u16.wrap (bd.size : Int) = (bd.size : Int)) := by (show _ = _); rw [IntKind.wrap_u16]; omega
  go_wp2_with fail
  generalize (⟨#[83, 73, 80, 47, 50, 46, 48, 47, 85, 68, 80, 32]⟩ ++ host ++ ⟨#[58]⟩ ++ dp ++ ⟨#[59, 98, 114, 97, 110, 99, 104, 61, 49]⟩ : ByteArray) = v1 at *
  generalize (⟨#[60, 115, 105, 112, 58, 97, 64]⟩ ++ host ++ ⟨#[58]⟩ ++ dp ++ ⟨#[62]⟩ : ByteArray) = v2 at *
  clear f12 f9 f7 f1 f2 hb2 HW
  refine (HT4.out w3 L3 bd.size (by omega)).mono ?_
  rintro e w4 ⟨x4, c4, rfl, hR4, b4⟩
  have L4 : Later w w4 := L3.trans b4
  have hcv4 := conv_rd 22 9 5 Tryd.underlying22 Tryd.underlying5 Tryd.underlying9 hR4
  rw [str_nms] at hcv4
  generalize (nmsB (decB bd.size)).length = n4 at *
  generalize decB bd.size = dn at *
  clear hR4 HT4 HT2
  have la := later_allocR w4 (.cells #[.string ⟨#[86, 105, 97]⟩, .string v1, .string ⟨#[67, 111, 110, 116, 97, 99, 116]⟩, .string v2, .string ⟨#[67, 111, 110, 116, 101, 110, 116, 45, 76, 101, 110, 103, 116, 104]⟩, .string dn] 53)
  have HN := hide (heap_alloc_new w4 (.cells #[.string ⟨#[86, 105, 97]⟩, .string v1, .string ⟨#[67, 111, 110, 116, 97, 99, 116]⟩, .string v2, .string ⟨#[67, 111, 110, 116, 101, 110, 116, 45, 76, 101, 110, 103, 116, 104]⟩, .string dn] 53))
  have hcvb := Lib.run_convert_string_bytes (P := Tryd.prog) (w4.alloc (.cells #[.string ⟨#[86, 105, 97]⟩, .string v1, .string ⟨#[67, 111, 110, 116, 97, 99, 116]⟩, .string v2, .string ⟨#[67, 111, 110, 116, 101, 110, 116, 45, 76, 101, 110, 103, 116, 104]⟩, .string dn] 53)) 9 22 5 bd Tryd.underlying9 Tryd.underlying22 Tryd.underlying5
  have HRB := hide (conv_rdS (w4.alloc (.cells #[.string ⟨#[86, 105, 97]⟩, .string v1, .string ⟨#[67, 111, 110, 116, 97, 99, 116]⟩, .string v2, .string ⟨#[67, 111, 110, 116, 101, 110, 116, 45, 76, 101, 110, 103, 116, 104]⟩, .string dn] 53)) 5 bd (by omega))
  have lb := conv_later (w4.alloc (.cells #[.string ⟨#[86, 105, 97]⟩, .string v1, .string ⟨#[67, 111, 110, 116, 97, 99, 116]⟩, .string v2, .string ⟨#[67, 111, 110, 116, 101, 110, 116, 45, 76, 101, 110, 103, 116, 104]⟩, .string dn] 53)) 5 bd
  rw [show (w4.alloc (.cells #[.string ⟨#[86, 105, 97]⟩, .string v1, .string ⟨#[67, 111, 110, 116, 97, 99, 116]⟩, .string v2, .string ⟨#[67, 111, 110, 116, 101, 110, 116, 45, 76, 101, 110, 103, 116, 104]⟩, .string dn] 53)).heap.size = w4.heap.size + 1 from World.size_alloc _ _] at HRB hcvb
  generalize Lib.bytesWorld (w4.alloc (.cells #[.string ⟨#[86, 105, 97]⟩, .string v1, .string ⟨#[67, 111, 110, 116, 97, 99, 116]⟩, .string v2, .string ⟨#[67, 111, 110, 116, 101, 110, 116, 45, 76, 101, 110, 103, 116, 104]⟩, .string dn] 53)) 5 bd = w6 at *
  generalize grownCap (w4.alloc (.cells #[.string ⟨#[86, 105, 97]⟩, .string v1, .string ⟨#[67, 111, 110, 116, 97, 99, 116]⟩, .string v2, .string ⟨#[67, 111, 110, 116, 101, 110, 116, 45, 76, 101, 110, 103, 116, 104]⟩, .string dn] 53)) bd.size 0 5 = gcp at *
  have hgcl : gc < w4.heap.size := by
    have h1 := (Array.getElem?_eq_some_iff.1 C0.out).1
    have h2 := (b1.size : w0.heap.size ≤ w1.heap.size)
    have h3 := (b2.size : w1.heap.size ≤ w2.heap.size)
    have h4 := (b3.size : w2.heap.size ≤ w3.heap.size)
    have h5 := (b4.size : w3.heap.size ≤ w4.heap.size)
    omega
  have C6 := hide (later_keep lb (later_keep la (later_keep b4 (later_keep b3 (later_keep b2 (later_keep b1 C0.out))))))
  have k6 := block_cell C6.out
  have f6 := block_frozen C6.out
  have N6 := hide (later_keep lb HN.out)
  have L6 : Later w w6 := L4.trans (la.trans lb)
  clear HN la lb b1 b2 b3 b4
  go_wp2_with fail
  generalize hV : (((w6.setCell ⟨gc, 0, none⟩ _).setCell ⟨gc, 1, none⟩ _).setCell ⟨gc, 2, none⟩ _) = V8
  have hV9 : V8 = putRow w6 gc 0 [.string cSt, .slice (some ⟨w4.heap.size, 0, none⟩) 3 3, .slice (some ⟨w4.heap.size + 1, 0, none⟩) bd.size gcp] := hV.symm
  have hb8 : But (fun b => b = gc) w6 V8 := by rw [hV9]; exact putRow_but (E := fun b => b = gc) (n := gc) rfl _ _ _ _ (But.refl _ _)
  have p8 := putRow_all [.string cSt, .slice (some ⟨w4.heap.size, 0, none⟩) 3 3, .slice (some ⟨w4.heap.size + 1, 0, none⟩) bd.size gcp] C6.out rfl
  rw [← hV9] at p8
  clear hV hV9 k6 f6 hcvb hcv4
  have P8 := block_cell p8
  have hw8 : Later w V8 := Below.trans L6 (hb8.below L6.size (fun k h e => by omega))
  have N8 := (hb8.block _ (Array.getElem?_eq_some_iff.1 N6.out).1 (by omega)).trans N6.out
  have hRH : RdM V8.heap.size V8 (.slice (some ⟨w4.heap.size, 0, none⟩) 3 3) chs := by
    rw [HHS.out]
    refine .inr ⟨w4.heap.size, 0, 3, rfl, by simp, by simp, by omega, (Array.getElem?_eq_some_iff.1 N8).1, fun j hj i hi => ?_⟩
    rw [Nat.zero_add, block_cell N8]
    simp only [List.length_cons, List.length_nil] at hj
    have hj3 : j = 0 ∨ j = 1 ∨ j = 2 := by omega
    have hi2 : i = 0 ∨ i = 1 := by omega
    rcases hj3 with rfl | rfl | rfl <;> rcases hi2 with rfl | rfl <;> rfl
  have hRB : Rd V8.heap.size V8 (.slice (some ⟨w4.heap.size + 1, 0, none⟩) bd.size gcp) (nmsB bd) := by
    rcases HRB.out with e | ⟨b, off, cap, e, hne, hl', hm', hb, hc⟩
    · exact .inl e
    · refine .inr ⟨b, off, cap, e, hne, hl', hm', by have := hb8.size; omega, fun j hj => ?_⟩
      have hcj := hc j hj
      have hbg : b ≠ gc := by
        simp only [Value.slice.injEq, Option.some.injEq, Addr.mk.injEq] at e
        omega
      have hblk := hb8.block b hb hbg
      simp only [World.cell?] at hcj ⊢
      rw [hblk]
      exact hcj
  exact bodyPost_ret (v := .agg #[.string cSt, .slice (some ⟨w4.heap.size, 0, none⟩) 3 3, .slice (some ⟨w4.heap.size + 1, 0, none⟩) bd.size gcp]) (by simp [results, Tryd.results18, go_sem, P8]) rfl ⟨hw8, _, _, rfl, hRH, hRB⟩
end Go.Proofs.YtehdgndbloaljaaDoor

/- Package sip: Parse. -/
namespace Go.Proofs.YtehdgndbloaljaaDoor
open Go.RowKit Go.Shelf
set_option maxRecDepth 100000
set_option linter.unusedVariables false
set_option linter.unusedSimpArgs false

theorem rdM_nil (n : Nat) (W : World) : RdM n W (.slice none 0 0) [] := .inl ⟨none, 0, rfl, rfl, by omega, fun _ => rfl⟩
theorem rd_nil14 (n : Nat) (W : World) : Rd n W (.slice none 0 0) [] := .inl ⟨none, 0, rfl, rfl, by omega, fun _ => rfl⟩
/-- A message as it lies in memory. -/
def MsQ (m : ByteArray × List Hr × ByteArray) (er : Int) (W : World) (v : Value) : Prop := ∃ vh vb, v = .tuple #[.agg #[.string m.1, vh, vb], .int .i64 er] ∧ RdM W.heap.size W vh m.2.1 ∧ Rd W.heap.size W vb (nmsB m.2.2)

set_option maxRecDepth 100000 in
set_option maxHeartbeats 4000000 in
theorem parse14_any (sb : Value) (zb : List Int) (w : World) (hT : TabI w) (hM : TabM w) (hB : Rd w.heap.size w sb zb) (hy : Mt.By zb) :
    Calls Tryd.prog 7 #[sb] w fun e w' => Later w w' ∧ ∃ v, e = .returned v ∧ MsQ (paM zb) (paE zb) w' v := by
  obtain ⟨ba, bcp, rfl, hbc1, hbc2⟩ := hB.slice
  have l0 : Later w (w.alloc (.cells #[.string ⟨#[]⟩, .slice none 0 0, .slice none 0 0] 25)) := later_allocR _ _
  have C0 := hide (heap_alloc_new w (.cells #[.string ⟨#[]⟩, .slice none 0 0, .slice none 0 0] 25))
  by_cases hlong : 4096 < zb.length
  · have hl' : (4096 : Int) < (zb.length : Int) := by omega
    have HV := hide (paM_long hlong)
    clear hlong
    go_enter Tryd.func7, Tryd.ntmps7
    go_upto_region 1 with fail
    generalize w.alloc _ = w0 at *
    generalize hgc : w.heap.size = gc at C0 ⊢
    have k0 := block_cell C0.out
    have f0 := block_frozen C0.out
    go_wp2_with fail
    generalize hV : (((w0.setCell ⟨gc, 0, none⟩ _).setCell ⟨gc, 1, none⟩ _).setCell ⟨gc, 2, none⟩ _) = V8
    have hV9 : V8 = putRow w0 gc 0 [.string ⟨#[]⟩, .slice none 0 0, .slice none 0 0] := hV.symm
    have hb8 : But (fun b => b = gc) w0 V8 := by rw [hV9]; exact putRow_but (E := fun b => b = gc) (n := gc) rfl _ _ _ _ (But.refl _ _)
    have p8 := putRow_all [.string ⟨#[]⟩, .slice none 0 0, .slice none 0 0] C0.out rfl
    rw [← hV9] at p8
    clear hV hV9 k0 f0
    have P8 := block_cell p8
    have hw8 : Later w V8 := Below.trans l0 (hb8.below l0.size (fun k h e => by omega))
    exact bodyPost_ret (v := .tuple #[.agg #[.string ⟨#[]⟩, .slice none 0 0, .slice none 0 0], .int .i64 8]) (by simp [results, Tryd.results7, go_sem, P8]) rfl ⟨hw8, _, rfl, by rw [HV.out.1, HV.out.2]; exact ⟨_, _, rfl, rdM_nil _ _, rd_nil14 _ _⟩⟩
  · have hl' : ¬ (4096 : Int) < (zb.length : Int) := by omega
    have hcv : ∀ W, Later w W → (convert 22 9 (.slice ba zb.length bcp)).run Tryd.prog W = .ok (.string (strOfNums zb)) W := fun W hW => conv_rd 22 9 5 Tryd.underlying22 Tryd.underlying5 Tryd.underlying9 (hB.below hW)
    have hss : (strOfNums zb).size ≤ 4096 := by rw [strOfNums_size]; omega
    have HSP := hide (fun W (l : Later w W) => split_any (strOfNums zb) W (hM.later l) hss)
    have HNO : Hid (paO zb = none → paE zb = 4 ∧ paM zb = (⟨#[]⟩, [], ⟨#[]⟩)) := fun h => paM_none hlong h
    have HYE : Hid (∀ st hs b, paO zb = some (st, hs, b) → paE zb = 0 ∧ paM zb = (st, hs, b)) := fun st hs b h => paM_some hlong h
    have H1 : Hid (prM (strOfNums zb) = none → paO zb = none) := fun h => paO_none h
    have H2 : Hid (∀ st hs b, prM (strOfNums zb) = some (st, hs, b) → (rgB st hs b.size = false → paO zb = none) ∧ (rgB st hs b.size = true → paO zb = some (st, hs, b)) ∧ szM st hs b.size ≤ 4096) := fun st hs b h => ⟨fun hr => paO_wrong h hr, fun hr => paO_right h hr, by rw [pr_size h]; exact hss⟩
    clear hlong
    generalize prM (strOfNums zb) = pm at *
    generalize strOfNums zb = s at *
    generalize paO zb = po at *
    generalize paE zb = pe at *
    generalize paM zb = pa at *
    have hcv0 := hcv _ l0
    clear hcv
    go_enter Tryd.func7, Tryd.ntmps7
    go_upto_region 3 with fail
    generalize w.alloc _ = w0 at *
    generalize hgc : w.heap.size = gc at C0 ⊢
    go_wp2_with fail
    refine (HSP.out w0 l0).mono ?_
    rintro e w1 ⟨l1, v, rfl, hq⟩
    clear hcv0 HSP
    have L1 : Later w w1 := Later.trans l0 l1
    have C1 := hide (later_keep l1 C0.out)
    rcases hq with ⟨st, vh, vb, hs, b, hpm, rfl, hrow, hG⟩ | ⟨hpm, rfl⟩
    · obtain ⟨h2a, h2b, h2c⟩ := H2.out st hs b hpm
      have HA := hide h2a
      have HB2 := hide h2b
      have hI := ownM_rd hrow
      have hR := hG.rd
      have HRW := hide hrow
      have HGG := hide hG
      clear hrow hG h2a h2b H1 H2 hpm
      obtain ⟨va, vc, rfl, _, _⟩ := hI.slice
      obtain ⟨xa, xc, rfl, _, _⟩ := hR.slice
      have hnl : (nmsB b).length = b.size := nmsB_len b
      have la := later_allocR w1 (.cells #[.string st, .slice va hs.length vc, .slice xa (nmsB b).length xc] 25)
      have CM := hide (heap_alloc_new w1 (.cells #[.string st, .slice va hs.length vc, .slice xa (nmsB b).length xc] 25))
      have HRG := hide (fun W (l : Later w1 W) => (right14_any st hs _ _ (nmsB b) W (hT.later (L1.trans l)) (hI.later l) (hR.later l) (by rw [hnl]; omega)).mono (fun e w' h => (by rw [hnl] at h; exact h : e = .returned (.bool (rgB st hs b.size)) ∧ Later W w')))
      have HI := hide (fun W (l : Later w1 W) => hI.later l)
      have HR := hide (fun W (l : Later w1 W) => hR.later l)
      clear hnl h2c
      generalize rgB st hs b.size = rg at *
      generalize (nmsB b).length = nl at *
      go_upto_region 4 with fail
      change Code.wp _ _ _ _ (w1.alloc (.cells #[.string st, .slice va hs.length vc, .slice xa nl xc] 25))
      have C2 := hide (later_keep la C1.out)
      generalize w1.alloc (.cells #[.string st, .slice va hs.length vc, .slice xa nl xc] 25) = w2 at *
      generalize w1.heap.size = gm at *
      have km := block_cell CM.out
      go_wp2_with fail
      refine (HRG.out w2 la).mono ?_
      rintro e w3 ⟨rfl, l3⟩
      clear km
      have L3 : Later w w3 := L1.trans (la.trans l3)
      have CM3 := later_keep l3 CM.out
      have C3 := later_keep l3 C2.out
      have km := block_cell CM3
      have k0 := block_cell C3
      have f0 := block_frozen C3
      cases rg with
      | false =>
        have HV := hide (HNO.out (HA.out rfl))
        go_wp2_with fail
        generalize hV : (((w3.setCell ⟨gc, 0, none⟩ _).setCell ⟨gc, 1, none⟩ _).setCell ⟨gc, 2, none⟩ _) = V8
        have hV9 : V8 = putRow w3 gc 0 [.string ⟨#[]⟩, .slice none 0 0, .slice none 0 0] := hV.symm
        have hb8 : But (fun b => b = gc) w3 V8 := by rw [hV9]; exact putRow_but (E := fun b => b = gc) (n := gc) rfl _ _ _ _ (But.refl _ _)
        have p8 := putRow_all [.string ⟨#[]⟩, .slice none 0 0, .slice none 0 0] C3 rfl
        rw [← hV9] at p8
        clear hV hV9 k0 f0 km
        have P8 := block_cell p8
        have hw8 : Later w V8 := Below.trans L3 (hb8.below L3.size (fun k h e => by omega))
        exact bodyPost_ret (v := .tuple #[.agg #[.string ⟨#[]⟩, .slice none 0 0, .slice none 0 0], .int .i64 4]) (by simp [results, Tryd.results7, go_sem, P8]) rfl ⟨hw8, _, rfl, by rw [HV.out.1, HV.out.2]; exact ⟨_, _, rfl, rdM_nil _ _, rd_nil14 _ _⟩⟩
      | true =>
        have HV := hide (HYE.out st hs b (HB2.out rfl))
        have HI3 := hide (ownM_later HRW.out (la.trans l3))
        have HR3 := hide (HGG.out.later (la.trans l3))
        go_wp2_with fail
        generalize hV : (((w3.setCell ⟨gc, 0, none⟩ _).setCell ⟨gc, 1, none⟩ _).setCell ⟨gc, 2, none⟩ _) = V8
        have hV9 : V8 = putRow w3 gc 0 [.string st, .slice va hs.length vc, .slice xa nl xc] := hV.symm
        have hb8 : But (fun b => b = gc) w3 V8 := by rw [hV9]; exact putRow_but (E := fun b => b = gc) (n := gc) rfl _ _ _ _ (But.refl _ _)
        have p8 := putRow_all [.string st, .slice va hs.length vc, .slice xa nl xc] C3 rfl
        rw [← hV9] at p8
        clear hV hV9 k0 f0 km
        have P8 := block_cell p8
        have hw8 : Later w V8 := Below.trans L3 (hb8.below L3.size (fun k h e => by omega))
        have hM8 := ownM_rd (own_butT HI3.out hb8 (fun i cur f h => by rintro rfl; rw [C3] at h; cases h))
        have hG8 := (HR3.out.butT hb8 (fun i cur f h => by rintro rfl; rw [C3] at h; cases h)).rd
        exact bodyPost_ret (v := .tuple #[.agg #[.string st, .slice va hs.length vc, .slice xa nl xc], .int .i64 0]) (by simp [results, Tryd.results7, go_sem, P8]) rfl ⟨hw8, _, rfl, by rw [HV.out.1, HV.out.2]; exact ⟨_, _, rfl, hM8, hG8⟩⟩
    · have HV := hide (HNO.out (H1.out hpm))
      have C2 := hide (later_keep (later_allocR w1 (.cells #[.string ⟨#[]⟩, .slice none 0 0, .slice none 0 0] 25)) C1.out)
      have la := later_allocR w1 (.cells #[.string ⟨#[]⟩, .slice none 0 0, .slice none 0 0] 25)
      go_upto_region 4 with fail
      change Code.wp _ _ _ _ (w1.alloc (.cells #[.string ⟨#[]⟩, .slice none 0 0, .slice none 0 0] 25))
      generalize w1.alloc (.cells #[.string ⟨#[]⟩, .slice none 0 0, .slice none 0 0] 25) = w2 at *
      have L3 : Later w w2 := L1.trans la
      have k0 := block_cell C2.out
      have f0 := block_frozen C2.out
      go_wp2_with fail
      generalize hV : (((w2.setCell ⟨gc, 0, none⟩ _).setCell ⟨gc, 1, none⟩ _).setCell ⟨gc, 2, none⟩ _) = V8
      have hV9 : V8 = putRow w2 gc 0 [.string ⟨#[]⟩, .slice none 0 0, .slice none 0 0] := hV.symm
      have hb8 : But (fun b => b = gc) w2 V8 := by rw [hV9]; exact putRow_but (E := fun b => b = gc) (n := gc) rfl _ _ _ _ (But.refl _ _)
      have p8 := putRow_all [.string ⟨#[]⟩, .slice none 0 0, .slice none 0 0] C2.out rfl
      rw [← hV9] at p8
      clear hV hV9 k0 f0
      have P8 := block_cell p8
      have hw8 : Later w V8 := Below.trans L3 (hb8.below L3.size (fun k h e => by omega))
      exact bodyPost_ret (v := .tuple #[.agg #[.string ⟨#[]⟩, .slice none 0 0, .slice none 0 0], .int .i64 4]) (by simp [results, Tryd.results7, go_sem, P8]) rfl ⟨hw8, _, rfl, by rw [HV.out.1, HV.out.2]; exact ⟨_, _, rfl, rdM_nil _ _, rd_nil14 _ _⟩⟩
end Go.Proofs.YtehdgndbloaljaaDoor

/- The walk of TopCalls. -/
namespace Go.Proofs.YtehdgndbloaljaaDoor
open Go.RowKit Go.Shelf
set_option maxRecDepth 100000
set_option linter.unusedVariables false
set_option linter.unusedSimpArgs false

theorem cX_right : rgB ⟨#[120]⟩ [(⟨#[67, 111, 110, 116, 101, 110, 116, 45, 76, 101, 110, 103, 116, 104]⟩, ⟨#[48]⟩)] 0 = true := by decide +kernel
theorem rdM_new1 (W : World) (x y : ByteArray) (t : TypeId) : RdM (W.alloc (.cells #[.string x, .string y] t)).heap.size (W.alloc (.cells #[.string x, .string y] t)) (.slice (some ⟨W.heap.size, 0, none⟩) 1 1) [(x, y)] :=
  .inr ⟨W.heap.size, 0, 1, rfl, by simp, by simp, by omega, by simp, fun j hj i hi => by
    obtain rfl : j = 0 := by simpa using hj
    rw [Nat.zero_mul, Nat.zero_add, block_cell (heap_alloc_new W _)]
    have hi2 : i = 0 ∨ i = 1 := by omega
    rcases hi2 with rfl | rfl <;> rfl⟩
theorem rdP2_new1 (W : World) (x y : Int) (t : TypeId) : RdP2 (W.alloc (.cells #[.int .u16 x, .int .u16 y] t)).heap.size (W.alloc (.cells #[.int .u16 x, .int .u16 y] t)) (.slice (some ⟨W.heap.size, 0, none⟩) 1 1) [(x, y)] :=
  .inr ⟨W.heap.size, 0, 1, rfl, by simp, by simp, by omega, by simp, fun j hj => by
    obtain rfl : j = 0 := by simpa using hj
    exact ⟨(block_cell (heap_alloc_new W _) 0).trans rfl, (block_cell (heap_alloc_new W _) 1).trans rfl⟩⟩
theorem cHs_small {h : Int} (hh : 0 ≤ h ∧ h ≤ 4294967295) {p m : Nat} (hp : 1 ≤ p ∧ p ≤ 65535) (hm : 1 ≤ m ∧ m ≤ 65535) : szM cSt (cHs (adB h) p m) (nmsB (cBd (adB h) m)).length ≤ 4096 := by
  rw [nmsB_len]
  exact rgB_sz (cM_right hh hp hm)

set_option maxRecDepth 100000 in
set_option maxHeartbeats 16000000 in
theorem walk_TopCalls (w : World) (hT : TabI w) (hM : TabM w) (a0 a1 : Int) (ha0 : 0 ≤ a0 ∧ a0 ≤ 4294967295) (ha1 : 0 ≤ a1 ∧ a1 ≤ 4294967295) (p0 : Int) (hp0 : 0 ≤ p0 ∧ p0 ≤ 65535) (p1 : Int) (hp1 : 0 ≤ p1 ∧ p1 ≤ 65535) (m0 : Int) (hm0 : 0 ≤ m0 ∧ m0 ≤ 65535) (m1 : Int) (hm1 : 0 ≤ m1 ∧ m1 ≤ 65535) :
    Calls Tryd.prog 6 #[.agg #[.int .u32 a0, .int .u32 a1], .agg #[.int .u16 p0, .int .u16 p1], .agg #[.int .u16 m0, .int .u16 m1]] w fun e w' => e = .returned (.bool true) ∧ Below w.heap.size w w' := by
  obtain ⟨p, rfl⟩ : ∃ n : Nat, p0 = n := ⟨p0.toNat, by omega⟩
  obtain ⟨q, rfl⟩ : ∃ n : Nat, p1 = n := ⟨p1.toNat, by omega⟩
  obtain ⟨m, rfl⟩ : ∃ n : Nat, m0 = n := ⟨m0.toNat, by omega⟩
  obtain ⟨n, rfl⟩ : ∃ k : Nat, m1 = k := ⟨m1.toNat, by omega⟩
  have LZ0 : Later w (((w.alloc (.cells #[.int .u32 a0, .int .u32 a1] 49)).alloc (.cells #[.int .u16 (p : Int), .int .u16 (q : Int)] 50)).alloc (.cells #[.int .u16 (m : Int), .int .u16 (n : Int)] 50)) := (((Below.refl _ _).alloc (Nat.le_refl _) _).alloc (by simp) _).alloc (by simp <;> omega) _
  have C0 : Hid ((((w.alloc (.cells #[.int .u32 a0, .int .u32 a1] 49)).alloc (.cells #[.int .u16 (p : Int), .int .u16 (q : Int)] 50)).alloc (.cells #[.int .u16 (m : Int), .int .u16 (n : Int)] 50)).heap[w.heap.size]? = some (.cells #[.int .u32 a0, .int .u32 a1] 49)) := (Below.heap_alloc _ _ _ (by simp <;> omega)).trans ((Below.heap_alloc _ _ _ (by simp)).trans (heap_alloc_new w _))
  have C1 : Hid ((((w.alloc (.cells #[.int .u32 a0, .int .u32 a1] 49)).alloc (.cells #[.int .u16 (p : Int), .int .u16 (q : Int)] 50)).alloc (.cells #[.int .u16 (m : Int), .int .u16 (n : Int)] 50)).heap[w.heap.size + 1]? = some (.cells #[.int .u16 (p : Int), .int .u16 (q : Int)] 50)) := by
    have := heap_alloc_new (w.alloc (.cells #[.int .u32 a0, .int .u32 a1] 49)) (.cells #[.int .u16 (p : Int), .int .u16 (q : Int)] 50)
    rw [World.size_alloc] at this
    exact (Below.heap_alloc _ _ _ (by simp)).trans this
  have C2 : Hid ((((w.alloc (.cells #[.int .u32 a0, .int .u32 a1] 49)).alloc (.cells #[.int .u16 (p : Int), .int .u16 (q : Int)] 50)).alloc (.cells #[.int .u16 (m : Int), .int .u16 (n : Int)] 50)).heap[w.heap.size + 1 + 1]? = some (.cells #[.int .u16 (m : Int), .int .u16 (n : Int)] 50)) := by
    have := heap_alloc_new ((w.alloc (.cells #[.int .u32 a0, .int .u32 a1] 49)).alloc (.cells #[.int .u16 (p : Int), .int .u16 (q : Int)] 50)) (.cells #[.int .u16 (m : Int), .int .u16 (n : Int)] 50)
    (show _ = _)
    simpa only [World.size_alloc] using this
  go_enter Tryd.func6, Tryd.ntmps6
  go_upto_region 1 with fail
  generalize ((w.alloc (.cells #[.int .u32 a0, .int .u32 a1] 49)).alloc (.cells #[.int .u16 (p : Int), .int .u16 (q : Int)] 50)).alloc (.cells #[.int .u16 (m : Int), .int .u16 (n : Int)] 50) = w0 at *
  generalize hgc : w.heap.size = gc at C0 C1 C2 ⊢
  clear hgc
  have lx := later_allocR w0 (.cells #[.string ⟨#[67, 111, 110, 116, 101, 110, 116, 45, 76, 101, 110, 103, 116, 104]⟩, .string ⟨#[48]⟩] 53)
  have LZ : Later w (w0.alloc (.cells #[.string ⟨#[67, 111, 110, 116, 101, 110, 116, 45, 76, 101, 110, 103, 116, 104]⟩, .string ⟨#[48]⟩] 53)) := LZ0.trans lx
  have HRZ := hide (right14_any ⟨#[120]⟩ [(⟨#[67, 111, 110, 116, 101, 110, 116, 45, 76, 101, 110, 103, 116, 104]⟩, ⟨#[48]⟩)] _ (.slice none 0 0) [] _ (hT.later LZ) (rdM_new1 w0 _ _ 53) (rd_nil14 _ _) (by decide +kernel))
  rw [show ([] : List Int).length = 0 from rfl, cX_right] at HRZ
  have k0 := block_cell C0.out
  have k1 := block_cell C1.out
  have k2 := block_cell C2.out
  by_cases z1 : p = 0
  · subst z1
    go_upto_region 2 with fail
    go_wp2_with fail
    refine (HRZ.out).mono ?_
    rintro e w5 ⟨rfl, l5⟩
    go_wp2_with fail
    go_ret
    exact ⟨rfl, LZ.trans l5⟩
  have t1 : ((p : Int) == 0) = false := by rw [beq_eq_false_iff_ne]; omega
  by_cases z2 : q = 0
  · subst z2
    go_upto_region 2 with fail
    go_wp2_with fail
    refine (HRZ.out).mono ?_
    rintro e w5 ⟨rfl, l5⟩
    go_wp2_with fail
    go_ret
    exact ⟨rfl, LZ.trans l5⟩
  have t2 : ((q : Int) == 0) = false := by rw [beq_eq_false_iff_ne]; omega
  by_cases z3 : m = 0
  · subst z3
    go_upto_region 2 with fail
    go_wp2_with fail
    refine (HRZ.out).mono ?_
    rintro e w5 ⟨rfl, l5⟩
    go_wp2_with fail
    go_ret
    exact ⟨rfl, LZ.trans l5⟩
  have t3 : ((m : Int) == 0) = false := by rw [beq_eq_false_iff_ne]; omega
  by_cases z4 : n = 0
  · subst z4
    go_upto_region 2 with fail
    go_wp2_with fail
    refine (HRZ.out).mono ?_
    rintro e w5 ⟨rfl, l5⟩
    go_wp2_with fail
    go_ret
    exact ⟨rfl, LZ.trans l5⟩
  have t4 : ((n : Int) == 0) = false := by rw [beq_eq_false_iff_ne]; omega
  have gp : 1 ≤ p ∧ p ≤ 65535 := by omega
  have gq : 1 ≤ q ∧ q ≤ 65535 := by omega
  have gm : 1 ≤ m ∧ m ≤ 65535 := by omega
  have gn : 1 ≤ n ∧ n ≤ 65535 := by omega
  clear HRZ LZ lx z1 z2 z3 z4
  go_upto_region 3 with fail
  clear t1 t2 t3 t4
  have HC0 := hide (call_any a0 ha0 p m gp gm w0 (hT.later LZ0))
  have HC1 := hide (fun W (l : Later w W) => call_any a1 ha1 q n gq gn W (hT.later l))
  obtain ⟨HM1, HM2⟩ := cM_change ha0 ha1 gp gq gm gn
  have HPT := cBd_ports (h := a0) gm (adB_dgd a0)
  have hsm := cHs_small ha0 gp gm
  have hsm1 := cHs_small ha1 gq gn
  have hrg := cM_right ha0 gp gm
  have hbl : (nmsB (cBd (adB a0) m)).length ≤ 200 := by rw [nmsB_len]; exact cBd_size ha0 gm
  have hcl : (cHs (adB a0) p m).length = 3 := rfl
  have hcl1 : (cHs (adB a1) q n).length = 3 := rfl
  have hcwf : (cgOf a0 a1 (p : Int) (q : Int) [((m : Int), (n : Int))]).wf := cg_wf ha0 ha1 hp0 hp1 (fun x hx => by simp at hx; subst hx; exact ⟨hm0, hm1⟩)
  have HPO := hide (fun W vh vb (l : Later w W) (hH : RdM W.heap.size W vh (cHs (adB a0) p m)) (hB : Rd W.heap.size W vb (nmsB (cBd (adB a0) m))) => ports14_any cSt vh vb (cHs (adB a0) p m) (nmsB (cBd (adB a0) m)) a0 W (hT.later l) (hM.later l) hH hB (by omega) ha0)
  rw [str_nms, HPT] at HPO
  have HRW := hide (fun W vh vb mv (l : Later w W) (hP : RdP2 W.heap.size W mv [((m : Int), (n : Int))]) (hH : RdM W.heap.size W vh (cHs (adB a0) p m)) (hB : Rd W.heap.size W vb (nmsB (cBd (adB a0) m))) => rewrite14_any a0 a1 (p : Int) (q : Int) [((m : Int), (n : Int))] mv cSt vh vb (cHs (adB a0) p m) (nmsB (cBd (adB a0) m)) W (hT.later l) (hM.later l) ha0 ha1 hcwf hP hH hB (by omega) (by omega) (by omega))
  rw [HM1, HM2] at HRW
  have HRG := hide (fun W vh vb (l : Later w W) (hH : RdM W.heap.size W vh (cHs (adB a0) p m)) (hB : Rd W.heap.size W vb (nmsB (cBd (adB a0) m))) => (right14_any cSt (cHs (adB a0) p m) vh vb (nmsB (cBd (adB a0) m)) W (hT.later l) hH hB (by omega)).mono (fun e w' h => (by rw [nmsB_len, hrg] at h; exact h : e = .returned (.bool true) ∧ Later W w')))
  have HBY := hide (nmsB_by (cBd (adB a1) n))
  have HSM := hide (fun W v1 v2 b1 b2 (h1 : RdM W.heap.size W v1 (cHs (adB a1) q n)) (h2 : RdM W.heap.size W v2 (cHs (adB a1) q n)) (h3 : Rd W.heap.size W b1 (nmsB (cBd (adB a1) n))) (h4 : Rd W.heap.size W b2 (nmsB (cBd (adB a1) n))) => same14_any cSt cSt v1 v2 b1 b2 (cHs (adB a1) q n) (cHs (adB a1) q n) (nmsB (cBd (adB a1) n)) (nmsB (cBd (adB a1) n)) W h1 h2 h3 h4 HBY.out HBY.out)
  rw [smM_self] at HSM
  clear HM1 HM2 HPT hsm hsm1 hrg hbl hcwf HBY hcl hcl1
  generalize cHs (adB a0) p m = h0 at *
  generalize cHs (adB a1) q n = h1 at *
  generalize nmsB (cBd (adB a0) m) = b0 at *
  generalize nmsB (cBd (adB a1) n) = b1 at *
  generalize cSt = st at *
  go_wp2_with fail
  refine HC0.out.mono ?_
  rintro e w1 ⟨l1, vh, vb, rfl, hH, hB⟩
  obtain ⟨va, vc, rfl, _, _⟩ := hH.slice
  obtain ⟨xa, xc, rfl, _, _⟩ := hB.slice
  have L1 : Later w w1 := LZ0.trans l1
  clear HC0 k0 k1 k2
  have la := later_allocR w1 (.cells #[.string st, .slice va h0.length vc, .slice xa b0.length xc] 25)
  have CM := hide (heap_alloc_new w1 (.cells #[.string st, .slice va h0.length vc, .slice xa b0.length xc] 25))
  have HH := hide (fun W (l : Later w1 W) => hH.later l)
  have HB := hide (fun W (l : Later w1 W) => hB.later l)
  clear hH hB
  go_upto_region 4 with fail
  change Code.wp _ _ _ _ (w1.alloc (.cells #[.string st, .slice va h0.length vc, .slice xa b0.length xc] 25))
  generalize w1.alloc (.cells #[.string st, .slice va h0.length vc, .slice xa b0.length xc] 25) = w2 at *
  generalize w1.heap.size = gx at *
  have L2 : Later w w2 := L1.trans la
  have D0 := hide (later_keep la (later_keep l1 C0.out))
  have D1 := hide (later_keep la (later_keep l1 C1.out))
  have D2 := hide (later_keep la (later_keep l1 C2.out))
  clear C0 C1 C2
  have k0 := block_cell D0.out
  have km := block_cell CM.out
  go_wp2_with fail
  refine (HPO.out w2 _ _ L2 (HH.out w2 la) (HB.out w2 la)).mono ?_
  rintro e w3 ⟨l3, v, rfl, hrow⟩
  obtain ⟨pa, pc, rfl⟩ := owns_form hrow
  clear k0 km HPO
  obtain ⟨gg, hga, hgc⟩ := own_cellG hrow (by simp [u16v])
  subst hga
  have hpc := hgc 0 (by simp [u16v])
  have HPC : Hid (∀ W, Later w3 W → W.cell? ⟨gg, 0, none⟩ = some (.int .u16 (m : Int))) := fun W l => l.cell (hpc.trans rfl)
  clear hgc hpc hrow
  have hl1 : ([(m : Int)] : List Int).length = 1 := rfl
  rw [hl1]
  clear hl1
  have L3 : Later w w3 := L2.trans l3
  have E0 := hide (later_keep l3 D0.out)
  have E1 := hide (later_keep l3 D1.out)
  have E2 := hide (later_keep l3 D2.out)
  have EM := hide (later_keep l3 CM.out)
  have k0 := block_cell E0.out
  have k1 := block_cell E1.out
  have k2 := block_cell E2.out
  have km := block_cell EM.out
  have lp := later_allocR w3 (.cells #[.int .u16 (m : Int), .int .u16 (n : Int)] 57)
  have HP := hide (rdP2_new1 w3 (m : Int) (n : Int) 57)
  have L4 : Later w (w3.alloc (.cells #[.int .u16 (m : Int), .int .u16 (n : Int)] 57)) := L3.trans lp
  go_upto_region 5 with fail
  go_wp2_with fail
  refine (HRW.out _ _ _ _ L4 HP.out (HH.out _ (la.trans (l3.trans lp))) (HB.out _ (la.trans (l3.trans lp)))).mono ?_
  rintro e w5 ⟨l5, vh2, vb2, rfl, hrow2, hO2⟩
  clear k0 k1 k2 km HRW HP
  have hI2 := ownM_rd hrow2
  have hR2 := hO2.rd
  obtain ⟨ya, yc, rfl, _, _⟩ := hI2.slice
  obtain ⟨za, zc, rfl, _, _⟩ := hR2.slice
  clear hrow2 hO2
  have L5 : Later w w5 := L4.trans l5
  have lq := later_allocR w5 (.cells #[.string st, .slice ya h1.length yc, .slice za b1.length zc] 25)
  have CN := hide (heap_alloc_new w5 (.cells #[.string st, .slice ya h1.length yc, .slice za b1.length zc] 25))
  have HI2 := hide (fun W (l : Later w5 W) => hI2.later l)
  have HR2 := hide (fun W (l : Later w5 W) => hR2.later l)
  clear hI2 hR2
  go_upto_region 6 with fail
  change Code.wp _ _ _ _ (w5.alloc (.cells #[.string st, .slice ya h1.length yc, .slice za b1.length zc] 25))
  generalize w5.alloc (.cells #[.string st, .slice ya h1.length yc, .slice za b1.length zc] 25) = w6 at *
  generalize w5.heap.size = gy at *
  have L36 : Later w3 w6 := lp.trans (l5.trans lq)
  have L6 : Later w w6 := L3.trans L36
  have LA6 := hide (la.trans (l3.trans L36))
  refine anyR_begin (R := Later) Later.pre Later.drew 27 rfl (by kernel_rfl) (fun V0 hV0 => ?_)
  have LV : Later w V0 := L6.trans hV0
  have q0 : ∀ u, Later V0 u → ∀ j, u.cell? ⟨gc, j, none⟩ = (#[.int .u32 a0, .int .u32 a1] : Array Value)[j]? := fun u hu => block_cell (later_keep (L36.trans (hV0.trans hu)) E0.out)
  have q1 : ∀ u, Later V0 u → ∀ j, u.cell? ⟨gc + 1, j, none⟩ = (#[.int .u16 (p : Int), .int .u16 (q : Int)] : Array Value)[j]? := fun u hu => block_cell (later_keep (L36.trans (hV0.trans hu)) E1.out)
  have q2 : ∀ u, Later V0 u → ∀ j, u.cell? ⟨gc + 1 + 1, j, none⟩ = (#[.int .u16 (m : Int), .int .u16 (n : Int)] : Array Value)[j]? := fun u hu => block_cell (later_keep (L36.trans (hV0.trans hu)) E2.out)
  have qm : ∀ u, Later V0 u → ∀ j, u.cell? ⟨gx, j, none⟩ = (#[.string st, .slice va h0.length vc, .slice xa b0.length xc] : Array Value)[j]? := fun u hu => block_cell (later_keep (L36.trans (hV0.trans hu)) EM.out)
  have qn : ∀ u, Later V0 u → ∀ j, u.cell? ⟨gy, j, none⟩ = (#[.string st, .slice ya h1.length yc, .slice za b1.length zc] : Array Value)[j]? := fun u hu => block_cell (later_keep (hV0.trans hu) CN.out)
  have qp : ∀ u, Later V0 u → u.cell? ⟨gg, 0, none⟩ = some (.int .u16 (m : Int)) := fun u hu => HPC.out u (L36.trans (hV0.trans hu))
  refine anyR_val Later.pre 0 rfl (by kernel_rfl) (by kernel_rfl) (by kernel_rfl) (fun _ _ _ _ h => h) rfl ?_; apply Exists.intro; refine ⟨fun v1 hv1 => ?_, ?_⟩; (· (go_simp; rfl)); simp only [Act.put, List.setIfInBounds_toArray, List.set_cons_zero, List.set_cons_succ]
  refine anyR_take Later.pre 1 (.bool true) rfl (by kernel_rfl) (by kernel_rfl) (by kernel_rfl) (fun _ _ _ h => h) rfl (fun u hu => goes_call 17 #[.agg #[.string st, .slice va h0.length vc, .slice xa b0.length xc]] (by go_simp) (HRG.out u _ _ (LV.trans hu) (HH.out u (LA6.out.trans (hV0.trans hu))) (HB.out u (LA6.out.trans (hV0.trans hu))))) ?_
  simp only [Act.put, List.setIfInBounds_toArray, List.set_cons_zero, List.set_cons_succ]
  refine anyR_val Later.pre 2 rfl (by kernel_rfl) (by kernel_rfl) (by kernel_rfl) (fun _ _ _ _ h => h) rfl ?_; apply Exists.intro; refine ⟨fun v1 hv1 => ?_, ?_⟩; (· (go_simp; rfl)); simp only [Act.put, List.setIfInBounds_toArray, List.set_cons_zero, List.set_cons_succ]
  refine anyR_valG Later.pre 3 rfl (by kernel_rfl) (by kernel_rfl) (by kernel_rfl) (fun _ _ _ _ h => h) (by rfl) ?_; apply Exists.intro; refine ⟨fun v1 hv1 => ?_, ?_⟩; (· (go_simp; rfl)); simp only [Act.put, List.setIfInBounds_toArray, List.set_cons_zero, List.set_cons_succ]
  refine anyR_valG Later.pre 4 rfl (by kernel_rfl) (by kernel_rfl) (by kernel_rfl) (fun _ _ _ _ h => h) (by rfl) ?_; apply Exists.intro; refine ⟨fun v1 hv1 => ?_, ?_⟩; (· (go_simp; rfl)); simp only [Act.put, List.setIfInBounds_toArray, List.set_cons_zero, List.set_cons_succ]
  refine anyR_valG Later.pre 5 rfl (by kernel_rfl) (by kernel_rfl) (by kernel_rfl) (fun _ _ _ _ h => h) (by rfl) ?_; apply Exists.intro; refine ⟨fun v1 hv1 => ?_, ?_⟩; (· (go_simp; rfl)); simp only [Act.put, List.setIfInBounds_toArray, List.set_cons_zero, List.set_cons_succ]
  refine anyR_val Later.pre 6 rfl (by kernel_rfl) (by kernel_rfl) (by kernel_rfl) (fun _ _ _ _ h => h) rfl ?_; apply Exists.intro; refine ⟨fun v1 hv1 => ?_, ?_⟩; (· (go_simp; rfl)); simp only [Act.put, List.setIfInBounds_toArray, List.set_cons_zero, List.set_cons_succ]
  refine anyR_val Later.pre 7 rfl (by kernel_rfl) (by kernel_rfl) (by kernel_rfl) (fun _ _ _ _ h => h) rfl ?_; apply Exists.intro; refine ⟨fun v1 hv1 => ?_, ?_⟩; (· (go_simp; rfl)); simp only [Act.put, List.setIfInBounds_toArray, List.set_cons_zero, List.set_cons_succ]
  refine anyR_valG Later.pre 8 rfl (by kernel_rfl) (by kernel_rfl) (by kernel_rfl) (fun _ _ _ _ h => h) (by rfl) ?_; apply Exists.intro; refine ⟨fun v1 hv1 => ?_, ?_⟩; (· (go_simp; rfl)); simp only [Act.put, List.setIfInBounds_toArray, List.set_cons_zero, List.set_cons_succ]
  refine anyR_valG Later.pre 9 rfl (by kernel_rfl) (by kernel_rfl) (by kernel_rfl) (fun _ _ _ _ h => h) (by rfl) ?_; apply Exists.intro; refine ⟨fun v1 hv1 => ?_, ?_⟩; (· (go_simp; rfl)); simp only [Act.put, List.setIfInBounds_toArray, List.set_cons_zero, List.set_cons_succ]
  refine anyR_valG Later.pre 10 rfl (by kernel_rfl) (by kernel_rfl) (by kernel_rfl) (fun _ _ _ _ h => h) (by rfl) ?_; apply Exists.intro; refine ⟨fun v1 hv1 => ?_, ?_⟩; (· (go_simp; rfl)); simp only [Act.put, List.setIfInBounds_toArray, List.set_cons_zero, List.set_cons_succ]
  refine anyR_valG Later.pre 11 rfl (by kernel_rfl) (by kernel_rfl) (by kernel_rfl) (fun _ _ _ _ h => h) (by rfl) ?_; apply Exists.intro; refine ⟨fun v1 hv1 => ?_, ?_⟩; (· (go_simp; rfl)); simp only [Act.put, List.setIfInBounds_toArray, List.set_cons_zero, List.set_cons_succ]
  refine anyR_valG Later.pre 12 rfl (by kernel_rfl) (by kernel_rfl) (by kernel_rfl) (fun _ _ _ _ h => h) (by rfl) ?_; apply Exists.intro; refine ⟨fun v1 hv1 => ?_, ?_⟩; (· (go_simp; rfl)); simp only [Act.put, List.setIfInBounds_toArray, List.set_cons_zero, List.set_cons_succ]
  refine anyR_valG Later.pre 13 rfl (by kernel_rfl) (by kernel_rfl) (by kernel_rfl) (fun _ _ _ _ h => h) (by rfl) ?_; apply Exists.intro; refine ⟨fun v1 hv1 => ?_, ?_⟩; (· (go_simp; rfl)); simp only [Act.put, List.setIfInBounds_toArray, List.set_cons_zero, List.set_cons_succ]
  refine anyR_val Later.pre 14 rfl (by kernel_rfl) (by kernel_rfl) (by kernel_rfl) (fun _ _ _ _ h => h) rfl ?_; apply Exists.intro; refine ⟨fun v1 hv1 => ?_, ?_⟩; (· (go_simp; rfl)); simp only [Act.put, List.setIfInBounds_toArray, List.set_cons_zero, List.set_cons_succ]
  refine anyR_val Later.pre 15 rfl (by kernel_rfl) (by kernel_rfl) (by kernel_rfl) (fun _ _ _ _ h => h) rfl ?_; apply Exists.intro; refine ⟨fun v1 hv1 => ?_, ?_⟩; (· (go_simp; rfl)); simp only [Act.put, List.setIfInBounds_toArray, List.set_cons_zero, List.set_cons_succ]
  refine anyR_valG Later.pre 16 rfl (by kernel_rfl) (by kernel_rfl) (by kernel_rfl) (fun _ _ _ _ h => h) (by rfl) ?_; apply Exists.intro; refine ⟨fun v1 hv1 => ?_, ?_⟩; (· (go_simp; rfl)); simp only [Act.put, List.setIfInBounds_toArray, List.set_cons_zero, List.set_cons_succ]
  refine anyR_valG Later.pre 17 rfl (by kernel_rfl) (by kernel_rfl) (by kernel_rfl) (fun _ _ _ _ h => h) (by rfl) ?_; apply Exists.intro; refine ⟨fun v1 hv1 => ?_, ?_⟩; (· (go_simp; rfl)); simp only [Act.put, List.setIfInBounds_toArray, List.set_cons_zero, List.set_cons_succ]
  refine anyR_valG Later.pre 18 rfl (by kernel_rfl) (by kernel_rfl) (by kernel_rfl) (fun _ _ _ _ h => h) (by rfl) ?_; apply Exists.intro; refine ⟨fun v1 hv1 => ?_, ?_⟩; (· (go_simp; rfl)); simp only [Act.put, List.setIfInBounds_toArray, List.set_cons_zero, List.set_cons_succ]
  refine anyR_valG Later.pre 19 rfl (by kernel_rfl) (by kernel_rfl) (by kernel_rfl) (fun _ _ _ _ h => h) (by rfl) ?_; apply Exists.intro; refine ⟨fun v1 hv1 => ?_, ?_⟩; (· (go_simp; rfl)); simp only [Act.put, List.setIfInBounds_toArray, List.set_cons_zero, List.set_cons_succ]
  refine anyR_valG Later.pre 20 rfl (by kernel_rfl) (by kernel_rfl) (by kernel_rfl) (fun _ _ _ _ h => h) (by rfl) ?_; apply Exists.intro; refine ⟨fun v1 hv1 => ?_, ?_⟩; (· (go_simp; rfl)); simp only [Act.put, List.setIfInBounds_toArray, List.set_cons_zero, List.set_cons_succ]
  refine anyR_valG Later.pre 21 rfl (by kernel_rfl) (by kernel_rfl) (by kernel_rfl) (fun _ _ _ _ h => h) (by rfl) ?_; apply Exists.intro; refine ⟨fun v1 hv1 => ?_, ?_⟩; (· (go_simp; rfl)); simp only [Act.put, List.setIfInBounds_toArray, List.set_cons_zero, List.set_cons_succ]
  refine anyR_valG Later.pre 22 rfl (by kernel_rfl) (by kernel_rfl) (by kernel_rfl) (fun _ _ _ _ h => h) (by rfl) ?_; apply Exists.intro; refine ⟨fun v1 hv1 => ?_, ?_⟩; (· (go_simp; rfl)); simp only [Act.put, List.setIfInBounds_toArray, List.set_cons_zero, List.set_cons_succ]
  clear q0 q1 q2 qm qn qp
  refine anyR_oneG 23 rfl (by kernel_rfl) (by rfl) (fun V1 hV1 => ?_)
  refine wp_enter 18 #[.int .u32 a1, .int .u16 (q : Int), .int .u16 (n : Int)] (by go_simp) ((HC1.out V1 (LV.trans hV1)).mono ?_)
  rintro e V2 ⟨r2, vh3, vb3, rfl, hH3, hB3⟩
  obtain ⟨ua, uc, rfl, _, _⟩ := hH3.slice
  obtain ⟨ta, tc, rfl, _, _⟩ := hB3.slice
  refine ⟨r2, ?_⟩
  simp only [Act.put, List.setIfInBounds_toArray, List.set_cons_zero, List.set_cons_succ]
  have HH3 := hide (fun W (l : Later V2 W) => hH3.later l)
  have HB3 := hide (fun W (l : Later V2 W) => hB3.later l)
  clear hH3 hB3
  refine anyR_takeG Later.pre 24 (.bool true) rfl (by kernel_rfl) (by kernel_rfl) (by kernel_rfl) (fun _ _ _ h => h) (by rfl) (fun u hu => goes_call 13 #[.agg #[.string st, .slice ya h1.length yc, .slice za b1.length zc], .agg #[.string st, .slice ua h1.length uc, .slice ta b1.length tc]] (by go_simp) (HSM.out u _ _ _ _ (HI2.out u (lq.trans (hV0.trans (hV1.trans (r2.trans hu))))) (HH3.out u hu) (HR2.out u (lq.trans (hV0.trans (hV1.trans (r2.trans hu))))) (HB3.out u hu))) ?_
  simp only [Act.put, List.setIfInBounds_toArray, List.set_cons_zero, List.set_cons_succ]
  refine anyR_val Later.pre 25 rfl (by kernel_rfl) (by kernel_rfl) (by kernel_rfl) (fun _ _ _ _ h => h) rfl ?_; apply Exists.intro; refine ⟨fun v1 hv1 => ?_, ?_⟩; (· (go_simp; rfl)); simp only [Act.put, List.setIfInBounds_toArray, List.set_cons_zero, List.set_cons_succ]
  refine anyR_val Later.pre 26 rfl (by kernel_rfl) (by kernel_rfl) (by kernel_rfl) (fun _ _ _ _ h => h) rfl ?_; apply Exists.intro; refine ⟨fun v1 hv1 => ?_, ?_⟩; (· (go_simp; rfl)); simp only [Act.put, List.setIfInBounds_toArray, List.set_cons_zero, List.set_cons_succ]
  refine anyR_done (by kernel_rfl) (fun V9 hV9 => ?_)
  have L9 : Later w V9 := LV.trans (hV1.trans (r2.trans hV9))
  go_wp2_with fail
  go_ret
  exact ⟨rfl, L9⟩
end Go.Proofs.YtehdgndbloaljaaDoor
