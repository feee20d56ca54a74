/- The law's near and inside. -/
import Derived.Test.YtaaanmjmgnpcgaaGU
namespace Go.Proofs.Ytaaanmjmgnpcgaa
open Go.RowKit Go.Shelf
set_option maxRecDepth 100000
set_option linter.unusedVariables false
set_option linter.unusedSimpArgs false

/-- The document's stream alone holds these parts. -/
def DT (base : Nat) (W : World) (b : Nat) (T : List Tx) : Prop := ∃ v ld, DS 71 base W b v ld ∧ ld.map strp = T.map tdp
theorem DT.add {base : Nat} {W W1 : World} {b : Nat} {v : Value} {ld : List Dp} {T : List Tx} {t : Tx} (hs : ld.map strp = T.map tdp) (q : AdD base W W1 b v ld t.s t.wz t.zs) : DT base W1 b (addT T t) := by
  have e2 : adD ld t.s t.wz t.zs.length = adT T t.s t.wz t.zs.length := by unfold adT; rw [← hs, adD_strp]
  unfold AdD at q
  rw [e2] at q
  unfold addT
  rcases q with ⟨h0, v', h, _⟩ | ⟨h0, ta, tc, ⟨v', h, _⟩, _⟩
  · rw [if_neg h0]; exact ⟨v', ld, h, hs⟩
  · rw [if_pos h0]; exact ⟨v', _, h, by rw [List.map_append, List.map_append, hs]; rfl⟩
/-- What near tells. -/
def NrQ (w w' : World) (e : Ending) (P : Prop) : Prop := ∃ r : Bool, e = .returned (.bool r) ∧ Below w.heap.size w w' ∧ (r = true → P)
def InQ (w w' : World) (e : Ending) (P : Prop) : Prop := ∃ r : Bool, e = .returned (.bool r) ∧ Below w.heap.size w w' ∧ (r = false → P)
/-- The first part's start. -/
def hdT (T : List Tx) : Int := (T.head?.map Tx.s).getD 0
def NearP (T : List Tx) (n : Int) : Prop := T ≠ [] → (∀ t ∈ T, 0 ≤ ahd t.s (hdT T) ∧ ahd t.s (hdT T) ≤ 536870912) ∧ -1073741824 < ahd n (hdT T) ∧ ahd n (hdT T) < 1073741824
theorem hdT_snoc {T : List Tx} (t : Tx) (h : T.isEmpty = false) : hdT (T ++ [t]) = hdT T := by 
  cases T with
  | nil => cases h
  | cons a l => rfl
theorem addT_yes {T : List Tx} {t : Tx} (h : adT T t.s t.wz t.zs.length = 0) : addT T t = T ++ [t] := if_pos h
theorem addT_no {T : List Tx} {t : Tx} (h : ¬ adT T t.s t.wz t.zs.length = 0) : addT T t = T := if_neg h

set_option maxHeartbeats 8000000 in
theorem near_any (sv : Value) (ds : List Ap) (n : Int) (w : World) (n₀ : Nat) (hn : n₀ ≤ w.heap.size) (hI : RdA n₀ w sv ds) :
    Calls Try.prog 16 #[sv, .int .u32 n] w fun e w' => NrQ w w' e (NearP (plT ds (min ds.length 30)) n) := by
  obtain ⟨aa, ca, rfl, ha1, ha2⟩ := hI.slice
  have HI := hide hI
  clear hI
  go_enter Try.func16, Try.ntmps16
  go_wp2_with fail
  refine (rsnew_any w).mono ?_
  rintro e w1 ⟨rfl, l1, hT1⟩
  have hPE : DT w.heap.size w1 w.heap.size [] := ⟨_, _, hT1, rfl⟩
  have L1 : Below w.heap.size w w1 := l1
  clear hT1 l1
  generalize hB : w.heap.size = b at *
  have HB := hide hB
  clear hB
  go_wp2_with fail
  go_loopw [5, 6, 8] (fun fi bg i wr => ∃ k : Nat, k ≤ ds.length ∧ k ≤ 30 ∧ fi = .bool (plT ds k).isEmpty ∧ bg = .int .u32 (hdT (plT ds k)) ∧ i = .int .i64 (k : Int) ∧ DT b wr b (plT ds k) ∧ Below b w wr ∧ ∀ t ∈ plT ds k, 0 ≤ ahd t.s (hdT (plT ds k)) ∧ ahd t.s (hdT (plT ds k)) ≤ 536870912) (fun _ _ i _ => 30 - (intOf i).toNat)
  case atStart => exact ⟨0, by omega, by omega, rfl, rfl, rfl, hPE, L1, fun t ht => by simp [plT] at ht⟩
  case round =>
    obtain ⟨k, hk1, hk2, rfl, rfl, rfl, hP, hbw, hnr⟩ := hrel
    have hsz := hbw.size
    have HNR := hide hnr
    clear hnr
    by_cases hgo : k < ds.length ∧ k < 30
    · obtain ⟨g1, g2⟩ := hgo
      have g1' : (k : Int) < ds.length := by omega
      have g2' : (k : Int) < 30 := by omega
      have hRk := HI.out.below (hbw.mono hn)
      obtain ⟨bb, off, cp, e, _, _, hbb, hcs⟩ := hRk.cells (by omega)
      simp at e
      obtain ⟨rfl, rfl⟩ := e
      have d0 := hcs k g1 0 (by omega)
      have d1 := hcs k g1 1 (by omega)
      have d2 := hcs k g1 2 (by omega)
      obtain ⟨hxs, hxw, hxb, hxr⟩ := hRk.2 ds[k] (List.getElem_mem _)
      have HPN := hide (plT_next g1)
      have HLN := hide (plT_len ds k)
      clear hcs hRk
      generalize ds[k] = x at *
      simp only [apc, List.getElem?_cons_zero, List.getElem?_cons_succ, Nat.add_zero] at d0 d1 d2
      obtain ⟨at0, ct0, htv, _, _⟩ := hxr.slice
      rw [htv] at d2
      have HXR := hide (fun W (h : Below n₀ wr W) => (Rd.below h hxr))
      clear hxr
      obtain ⟨vb, ld, h2, hst⟩ := hP
      have hld : ld.length ≤ 8 := by have := congrArg List.length hst; simp at this; rw [this]; exact HLN.out
      have HST := hide hst
      clear hst
      have hnb : n₀ ≤ b := by have := HB.out; omega
      have hbr : b ≤ wr.heap.size := by have := HB.out; omega
      go_upto_region 7 with fail
      refine anyT_begin (R := But (Eb b wr.heap.size)) 18 rfl (by kernel_rfl) ?_
      have ld0 : Later wr wr.drew := Later.drew wr
      have c0 : ∀ v1, But (Eb b wr.heap.size) wr.drew v1 → v1.cell? ⟨bb, off + k * 3, none⟩ = some (.int .u32 x.s) := fun v1 hv => hv.cell (ld0.cell d0) (fun e => by have := e.1; simp at this; omega)
      have c1 : ∀ v1, But (Eb b wr.heap.size) wr.drew v1 → v1.cell? ⟨bb, off + k * 3 + 1, none⟩ = some (.int .i64 x.wz) := fun v1 hv => hv.cell (ld0.cell d1) (fun e => by have := e.1; simp at this; omega)
      have c2 : ∀ v1, But (Eb b wr.heap.size) wr.drew v1 → v1.cell? ⟨bb, off + k * 3 + 2, none⟩ = some (.slice at0 x.zs.length ct0) := fun v1 hv => hv.cell (ld0.cell d2) (fun e => by have := e.1; simp at this; omega)
      generalize wr.drew = Wd at *
      clear d0 d1 d2
      refine anyT_val (But.pre _) 0 rfl (by kernel_rfl) (by kernel_rfl) (by kernel_rfl) (fun _ _ _ _ h => h) rfl ?_; apply Exists.intro; refine ⟨fun v1 hv1 => ?_, ?_⟩; (· (go_simp; rfl)); simp only [Act.put, List.setIfInBounds_toArray, List.set_cons_zero, List.set_cons_succ]
      refine anyT_val (But.pre _) 1 rfl (by kernel_rfl) (by kernel_rfl) (by kernel_rfl) (fun _ _ _ _ h => h) rfl ?_; apply Exists.intro; refine ⟨fun v1 hv1 => ?_, ?_⟩; (· (go_simp; rfl)); simp only [Act.put, List.setIfInBounds_toArray, List.set_cons_zero, List.set_cons_succ]
      refine anyT_val (But.pre _) 2 rfl (by kernel_rfl) (by kernel_rfl) (by kernel_rfl) (fun _ _ _ _ h => h) rfl ?_; apply Exists.intro; refine ⟨fun v1 hv1 => ?_, ?_⟩; (· (go_simp; rfl)); simp only [Act.put, List.setIfInBounds_toArray, List.set_cons_zero, List.set_cons_succ]
      refine anyT_val (But.pre _) 3 rfl (by kernel_rfl) (by kernel_rfl) (by kernel_rfl) (fun _ _ _ _ h => h) rfl ?_; apply Exists.intro; refine ⟨fun v1 hv1 => ?_, ?_⟩; (· (go_simp; rfl)); simp only [Act.put, List.setIfInBounds_toArray, List.set_cons_zero, List.set_cons_succ]
      refine anyT_val (But.pre _) 4 rfl (by kernel_rfl) (by kernel_rfl) (by kernel_rfl) (fun _ _ _ _ h => h) rfl ?_; apply Exists.intro; refine ⟨fun v1 hv1 => ?_, ?_⟩; (· (go_simp; rfl)); simp only [Act.put, List.setIfInBounds_toArray, List.set_cons_zero, List.set_cons_succ]
      refine anyT_val (But.pre _) 5 rfl (by kernel_rfl) (by kernel_rfl) (by kernel_rfl) (fun _ _ _ _ h => h) rfl ?_; apply Exists.intro; refine ⟨fun v1 hv1 => ?_, ?_⟩; (· (go_simp; rfl)); simp only [Act.put, List.setIfInBounds_toArray, List.set_cons_zero, List.set_cons_succ]
      refine anyT_val (But.pre _) 6 rfl (by kernel_rfl) (by kernel_rfl) (by kernel_rfl) (fun _ _ _ _ h => h) rfl ?_; apply Exists.intro; refine ⟨fun v1 hv1 => ?_, ?_⟩; (· (go_simp; rfl)); simp only [Act.put, List.setIfInBounds_toArray, List.set_cons_zero, List.set_cons_succ]
      refine anyT_val (But.pre _) 7 rfl (by kernel_rfl) (by kernel_rfl) (by kernel_rfl) (fun _ _ _ _ h => h) rfl ?_; apply Exists.intro; refine ⟨fun v1 hv1 => ?_, ?_⟩; (· (go_simp; rfl)); simp only [Act.put, List.setIfInBounds_toArray, List.set_cons_zero, List.set_cons_succ]
      refine anyT_val (But.pre _) 8 rfl (by kernel_rfl) (by kernel_rfl) (by kernel_rfl) (fun _ _ _ _ h => h) rfl ?_; apply Exists.intro; refine ⟨fun v1 hv1 => ?_, ?_⟩; (· (go_simp; rfl)); simp only [Act.put, List.setIfInBounds_toArray, List.set_cons_zero, List.set_cons_succ]
      refine anyT_val (But.pre _) 9 rfl (by kernel_rfl) (by kernel_rfl) (by kernel_rfl) (fun _ _ _ _ h => h) rfl ?_; apply Exists.intro; refine ⟨fun v1 hv1 => ?_, ?_⟩; (· (go_simp; rfl)); simp only [Act.put, List.setIfInBounds_toArray, List.set_cons_zero, List.set_cons_succ]
      refine anyT_val (But.pre _) 10 rfl (by kernel_rfl) (by kernel_rfl) (by kernel_rfl) (fun _ _ _ _ h => h) rfl ?_; apply Exists.intro; refine ⟨fun v1 hv1 => ?_, ?_⟩; (· (go_simp; rfl)); simp only [Act.put, List.setIfInBounds_toArray, List.set_cons_zero, List.set_cons_succ]
      refine anyT_val (But.pre _) 11 rfl (by kernel_rfl) (by kernel_rfl) (by kernel_rfl) (fun _ _ _ _ h => h) rfl ?_; apply Exists.intro; refine ⟨fun v1 hv1 => ?_, ?_⟩; (· (go_simp; rfl)); simp only [Act.put, List.setIfInBounds_toArray, List.set_cons_zero, List.set_cons_succ]
      refine anyT_val (But.pre _) 12 rfl (by kernel_rfl) (by kernel_rfl) (by kernel_rfl) (fun _ _ _ _ h => h) rfl ?_; apply Exists.intro; refine ⟨fun v1 hv1 => ?_, ?_⟩; (· (go_simp; rfl)); simp only [Act.put, List.setIfInBounds_toArray, List.set_cons_zero, List.set_cons_succ]
      refine anyT_val (But.pre _) 13 rfl (by kernel_rfl) (by kernel_rfl) (by kernel_rfl) (fun _ _ _ _ h => h) rfl ?_; apply Exists.intro; refine ⟨fun v1 hv1 => ?_, ?_⟩; (· (go_simp; rfl)); simp only [Act.put, List.setIfInBounds_toArray, List.set_cons_zero, List.set_cons_succ]
      refine anyT_val (But.pre _) 14 rfl (by kernel_rfl) (by kernel_rfl) (by kernel_rfl) (fun _ _ _ _ h => h) rfl ?_; apply Exists.intro; refine ⟨fun v1 hv1 => ?_, ?_⟩; (· (go_simp; rfl)); simp only [Act.put, List.setIfInBounds_toArray, List.set_cons_zero, List.set_cons_succ]
      refine anyT_val (But.pre _) 15 rfl (by kernel_rfl) (by kernel_rfl) (by kernel_rfl) (fun _ _ _ _ h => h) rfl ?_; apply Exists.intro; refine ⟨fun v1 hv1 => ?_, ?_⟩; (· (go_simp; rfl)); simp only [Act.put, List.setIfInBounds_toArray, List.set_cons_zero, List.set_cons_succ]
      refine anyT_one 16 rfl (by kernel_rfl) rfl ?_
      refine wp_enter 25 #[.pointer (some ⟨b, 0, none⟩), .int .u32 x.s, .int .i64 x.wz, .slice at0 x.zs.length ct0] (by go_simp) ?_
      have hsd := ld0.size
      refine (rsadd_any b b vb ld x.s x.wz (.slice at0 x.zs.length ct0) x.zs Wd (h2.later ld0) (by omega) (by omega) (by rw [← htv]; exact (HXR.out Wd (Below.mono ld0 (by omega))).mono (by omega))).mono ?_
      rintro e W2 ⟨rfl, q2⟩
      obtain ⟨l2', qq2⟩ := q2.but
      have b2 : But (Eb b wr.heap.size) Wd W2 := DSq.eb h2 qq2
      refine ⟨b2, ?_⟩
      simp only [Act.put, List.setIfInBounds_toArray, List.set_cons_zero, List.set_cons_succ]
      have e0 := c0 W2 b2
      have e1 := c1 W2 b2
      clear c0 c1 c2
      have hd2 := DT.add (t := toT x) HST.out q2
      have HAZ := hide (show adD ld x.s x.wz x.zs.length = adT (plT ds k) (toT x).s (toT x).wz (toT x).zs.length by unfold adT; rw [← HST.out, adD_strp]; rfl)
      have HD2 := hide hd2
      clear hd2 q2 qq2
      have hbw2 : Below b w W2 := hbw.trans ((Below.mono ld0 (by omega)).trans (b2.below (by omega) (fun g hg e => by have := e.1; omega)))
      have HBW := hide hbw2
      clear hbw2
      generalize adD ld x.s x.wz x.zs.length = z at *
      by_cases hz : z = 0
      · have HAT := hide (addT_yes (HAZ.out.symm.trans hz))
        subst hz
        refine anyT_val (But.pre _) 17 rfl (by kernel_rfl) (by kernel_rfl) (by kernel_rfl) (fun _ _ _ _ h => h) rfl ?_; apply Exists.intro; refine ⟨fun v1 hv1 => ?_, ?_⟩; (· (go_simp; rfl)); simp only [Act.put, List.setIfInBounds_toArray, List.set_cons_zero, List.set_cons_succ]
        refine anyT_done (by kernel_rfl) ?_
        cases hem : (plT ds k).isEmpty with
        | true =>
          have HHD : Hid (hdT (plT ds k ++ [toT x]) = x.s) := by show _ = _; rw [List.isEmpty_iff.1 hem]; rfl
          have HNEW : Hid (∀ t ∈ plT ds k, 0 ≤ ahd t.s x.s ∧ ahd t.s x.s ≤ 536870912) := by show ∀ t ∈ _, _; rw [List.isEmpty_iff.1 hem]; intro t ht; cases ht
          have HAH := hide (fun W => rahead_any x.s x.s W)
          generalize hdd : ahd x.s x.s = dd at *
          have HDD : Hid (dd = ahd (toT x).s x.s) := hdd.symm
          clear hdd hem
          go_wp2_with fail
          refine (HAH.out W2).mono ?_
          rintro e w5 ⟨rfl, rfl⟩
          by_cases hd1 : dd < 0
          · go_wp2_with fail
            refine bodyPost_ret (v := .bool false) (by first | (simp [results, Try.results16, go_sem]; done) | (simp [results, Try.results16, go_sem]; omega)) rfl ?_
            exact ⟨false, rfl, by rw [HB.out]; exact HBW.out, fun h => by cases h⟩
          · by_cases hd3 : 536870912 < dd
            · go_wp2_with fail
              refine bodyPost_ret (v := .bool false) (by first | (simp [results, Try.results16, go_sem]; done) | (simp [results, Try.results16, go_sem]; omega)) rfl ?_
              exact ⟨false, rfl, by rw [HB.out]; exact HBW.out, fun h => by cases h⟩
            · go_wp2_with fail
              go_roundw
              case rel =>
                refine ⟨k + 1, by omega, by omega, ?_, ?_, by simp, ?_, HBW.out, ?_⟩
                · rw [HPN.out, HAT.out, snoc_ne]
                · rw [HPN.out, HAT.out, HHD.out]
                · rw [HPN.out]; exact HD2.out
                · rw [HPN.out, HAT.out, HHD.out]
                  intro t ht
                  rcases List.mem_append.1 ht with h | h
                  · exact HNEW.out t h
                  · obtain rfl : t = toT x := by simpa using h
                    rw [← HDD.out]
                    omega
              case measure => simp [intOf]; omega
        | false =>
          have HHD := hide (hdT_snoc (toT x) hem)
          have HNEW := hide HNR.out
          have HAH := hide (fun W => rahead_any x.s (hdT (plT ds k)) W)
          generalize hdd : ahd x.s (hdT (plT ds k)) = dd at *
          have HDD : Hid (dd = ahd (toT x).s (hdT (plT ds k))) := hdd.symm
          clear hdd hem
          generalize hdT (plT ds k) = hq at *
          go_wp2_with fail
          refine (HAH.out W2).mono ?_
          rintro e w5 ⟨rfl, rfl⟩
          by_cases hd1 : dd < 0
          · go_wp2_with fail
            refine bodyPost_ret (v := .bool false) (by first | (simp [results, Try.results16, go_sem]; done) | (simp [results, Try.results16, go_sem]; omega)) rfl ?_
            exact ⟨false, rfl, by rw [HB.out]; exact HBW.out, fun h => by cases h⟩
          · by_cases hd3 : 536870912 < dd
            · go_wp2_with fail
              refine bodyPost_ret (v := .bool false) (by first | (simp [results, Try.results16, go_sem]; done) | (simp [results, Try.results16, go_sem]; omega)) rfl ?_
              exact ⟨false, rfl, by rw [HB.out]; exact HBW.out, fun h => by cases h⟩
            · go_wp2_with fail
              go_roundw
              case rel =>
                refine ⟨k + 1, by omega, by omega, ?_, ?_, by simp, ?_, HBW.out, ?_⟩
                · rw [HPN.out, HAT.out, snoc_ne]
                · rw [HPN.out, HAT.out, HHD.out]
                · rw [HPN.out]; exact HD2.out
                · rw [HPN.out, HAT.out, HHD.out]
                  intro t ht
                  rcases List.mem_append.1 ht with h | h
                  · exact HNEW.out t h
                  · obtain rfl : t = toT x := by simpa using h
                    rw [← HDD.out]
                    omega
              case measure => simp [intOf]; omega
      · have HAT := hide (addT_no (fun h => hz (HAZ.out.trans h)))
        have hzb : (z == 0) = false := by simpa using hz
        refine anyT_val (But.pre _) 17 rfl (by kernel_rfl) (by kernel_rfl) (by kernel_rfl) (fun _ _ _ _ h => h) rfl ?_; apply Exists.intro; refine ⟨fun v1 hv1 => ?_, ?_⟩; (· (go_simp; rfl)); simp only [Act.put, List.setIfInBounds_toArray, List.set_cons_zero, List.set_cons_succ]
        refine anyT_done (by kernel_rfl) ?_
        generalize hq1 : hdT (plT ds k) = hq at *
        generalize hq2 : (plT ds k).isEmpty = he at *
        have HQ1 := hide hq1
        have HQ2 := hide hq2
        clear hq1 hq2
        go_wp2_with fail
        go_roundw
        case rel =>
          refine ⟨k + 1, by omega, by omega, ?_, ?_, by simp, ?_, HBW.out, ?_⟩
          · rw [HPN.out, HAT.out, HQ2.out]
          · rw [HPN.out, HAT.out, HQ1.out]
          · rw [HPN.out]; exact HD2.out
          · rw [HPN.out, HAT.out, HQ1.out]; exact HNR.out
        case measure => simp [intOf]; omega
    · have hm : min ds.length 30 = k := by omega
      have HM := hide hm
      clear hm
      have HAH := hide (fun W => rahead_any n (hdT (plT ds k)) W)
      have HNP : Hid (∀ dd, dd = ahd n (hdT (plT ds k)) → -1073741824 < dd → dd < 1073741824 → NearP (plT ds k) n) := fun dd h h1 h2 _ => ⟨HNR.out, by rw [← h]; exact ⟨h1, h2⟩⟩
      have HEM : Hid ((plT ds k).isEmpty = true → NearP (plT ds k) n) := fun h hne => absurd (List.isEmpty_iff.1 h) hne
      generalize hdd : ahd n (hdT (plT ds k)) = dd at *
      generalize hdT (plT ds k) = hq at *
      generalize hhe : (plT ds k).isEmpty = he at *
      have HHE := hide hhe
      clear hhe hdd
      have hor : ¬ k < ds.length ∨ (k < ds.length ∧ ¬ k < 30) := by omega
      rcases hor with h | ⟨h, h'⟩
      case' inl =>
        have g1' : ¬ (k : Int) < ds.length := by omega
      case' inr =>
        have g1' : (k : Int) < ds.length := by omega
        have g2' : ¬ (k : Int) < 30 := by omega
      all_goals
        go_wp2_with fail
        refine (HAH.out _).mono ?_
        rintro e w5 ⟨rfl, rfl⟩
        cases he with
        | true =>
          go_wp2_with fail
          refine bodyPost_ret (v := .bool true) (by first | (simp [results, Try.results16, go_sem]; done) | (simp [results, Try.results16, go_sem]; omega)) rfl ?_
          exact ⟨true, rfl, by rw [HB.out]; exact hbw, fun _ => by rw [HM.out]; exact HEM.out trivial⟩
        | false =>
          by_cases q1 : -1073741824 < dd
          · by_cases q2 : dd < 1073741824
            · go_wp2_with fail
              refine bodyPost_ret (v := .bool true) (by first | (simp [results, Try.results16, go_sem]; done) | (simp [results, Try.results16, go_sem]; omega)) rfl ?_
              exact ⟨true, rfl, by rw [HB.out]; exact hbw, fun _ => by rw [HM.out]; exact HNP.out dd rfl q1 q2⟩
            · go_wp2_with fail
              refine bodyPost_ret (v := .bool false) (by first | (simp [results, Try.results16, go_sem]; done) | (simp [results, Try.results16, go_sem]; omega)) rfl ?_
              exact ⟨false, rfl, by rw [HB.out]; exact hbw, fun h => by cases h⟩
          · go_wp2_with fail
            refine bodyPost_ret (v := .bool false) (by first | (simp [results, Try.results16, go_sem]; done) | (simp [results, Try.results16, go_sem]; omega)) rfl ?_
            exact ⟨false, rfl, by rw [HB.out]; exact hbw, fun h => by cases h⟩
end Go.Proofs.Ytaaanmjmgnpcgaa
