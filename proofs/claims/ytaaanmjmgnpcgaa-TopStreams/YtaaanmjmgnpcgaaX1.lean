/- Several texts in one. -/
import Derived.Test.YtaaanmjmgnpcgaaGV
import Derived.Laws.MakeOwn
import Derived.Test.YtaaanmjmgnpcgaaW8
import Derived.Test.YtaaanmjmgnpcgaaOp2
/- The law's inside. -/
namespace Go.Proofs.Ytaaanmjmgnpcgaa
open Go.RowKit Go.Shelf
set_option maxRecDepth 100000
set_option linter.unusedVariables false
set_option linter.unusedSimpArgs false

def OutP (T : List Tx) (n : Int) : Prop := ∀ t ∈ T, ¬ (0 < ahd n t.s ∧ ahd n t.s < t.wz)

set_option maxHeartbeats 8000000 in
theorem inside_any (sv : Value) (ds : List Ap) (n : Int) (w : World) (n₀ : Nat) (hn : n₀ ≤ w.heap.size) (hI : RdA n₀ w sv ds) :
    Calls Try.prog 17 #[sv, .int .u32 n] w fun e w' => InQ w w' e (OutP (plT ds (min ds.length 30)) n) := by
  obtain ⟨aa, ca, rfl, ha1, ha2⟩ := hI.slice
  have HI := hide hI
  clear hI
  go_enter Try.func17, Try.ntmps17
  go_wp2_with fail
  refine (rsnew_any w).mono ?_
  rintro e w1 ⟨rfl, l1, hT1⟩
  have hPE : DT w.heap.size w1 w.heap.size [] := ⟨_, _, hT1, rfl⟩
  have L1 : Below w.heap.size w w1 := l1
  clear hT1 l1
  generalize hB : w.heap.size = b at *
  have HB := hide hB
  clear hB
  go_wp2_with fail
  go_loopw [6] (fun i wr => ∃ k : Nat, k ≤ ds.length ∧ k ≤ 30 ∧ i = .int .i64 (k : Int) ∧ DT b wr b (plT ds k) ∧ Below b w wr ∧ OutP (plT ds k) n) (fun i _ => 30 - (intOf i).toNat)
  case atStart => exact ⟨0, by omega, by omega, rfl, hPE, L1, fun t ht => by simp [plT] at ht⟩
  case round =>
    obtain ⟨k, hk1, hk2, rfl, hP, hbw, hnr⟩ := hrel
    have hsz := hbw.size
    have HNR := hide hnr
    clear hnr
    by_cases hgo : k < ds.length ∧ k < 30
    · obtain ⟨g1, g2⟩ := hgo
      have g1' : (k : Int) < ds.length := by omega
      have g2' : (k : Int) < 30 := by omega
      have hRk := HI.out.below (hbw.mono hn)
      obtain ⟨bb, off, cp, e, _, _, hbb, hcs⟩ := hRk.cells (by omega)
      simp at e
      obtain ⟨rfl, rfl⟩ := e
      have d0 := hcs k g1 0 (by omega)
      have d1 := hcs k g1 1 (by omega)
      have d2 := hcs k g1 2 (by omega)
      obtain ⟨hxs, hxw, hxb, hxr⟩ := hRk.2 ds[k] (List.getElem_mem _)
      have HPN := hide (plT_next g1)
      have HLN := hide (plT_len ds k)
      clear hcs hRk
      generalize ds[k] = x at *
      simp only [apc, List.getElem?_cons_zero, List.getElem?_cons_succ, Nat.add_zero] at d0 d1 d2
      obtain ⟨at0, ct0, htv, _, _⟩ := hxr.slice
      rw [htv] at d2
      have HXR := hide (fun W (h : Below n₀ wr W) => (Rd.below h hxr))
      clear hxr
      obtain ⟨vb, ld, h2, hst⟩ := hP
      have hld : ld.length ≤ 8 := by have := congrArg List.length hst; simp at this; rw [this]; exact HLN.out
      have HST := hide hst
      clear hst
      have hnb : n₀ ≤ b := by have := HB.out; omega
      have hbr : b ≤ wr.heap.size := by have := HB.out; omega
      go_upto_region 5 with fail
      refine anyT_begin (R := But (Eb b wr.heap.size)) 18 rfl (by kernel_rfl) ?_
      have ld0 : Later wr wr.drew := Later.drew wr
      have c0 : ∀ v1, But (Eb b wr.heap.size) wr.drew v1 → v1.cell? ⟨bb, off + k * 3, none⟩ = some (.int .u32 x.s) := fun v1 hv => hv.cell (ld0.cell d0) (fun e => by have := e.1; simp at this; omega)
      have c1 : ∀ v1, But (Eb b wr.heap.size) wr.drew v1 → v1.cell? ⟨bb, off + k * 3 + 1, none⟩ = some (.int .i64 x.wz) := fun v1 hv => hv.cell (ld0.cell d1) (fun e => by have := e.1; simp at this; omega)
      have c2 : ∀ v1, But (Eb b wr.heap.size) wr.drew v1 → v1.cell? ⟨bb, off + k * 3 + 2, none⟩ = some (.slice at0 x.zs.length ct0) := fun v1 hv => hv.cell (ld0.cell d2) (fun e => by have := e.1; simp at this; omega)
      generalize wr.drew = Wd at *
      clear d0 d1 d2
      refine anyT_val (But.pre _) 0 rfl (by kernel_rfl) (by kernel_rfl) (by kernel_rfl) (fun _ _ _ _ h => h) rfl ?_; apply Exists.intro; refine ⟨fun v1 hv1 => ?_, ?_⟩; (· (go_simp; rfl)); simp only [Act.put, List.setIfInBounds_toArray, List.set_cons_zero, List.set_cons_succ]
      refine anyT_val (But.pre _) 1 rfl (by kernel_rfl) (by kernel_rfl) (by kernel_rfl) (fun _ _ _ _ h => h) rfl ?_; apply Exists.intro; refine ⟨fun v1 hv1 => ?_, ?_⟩; (· (go_simp; rfl)); simp only [Act.put, List.setIfInBounds_toArray, List.set_cons_zero, List.set_cons_succ]
      refine anyT_val (But.pre _) 2 rfl (by kernel_rfl) (by kernel_rfl) (by kernel_rfl) (fun _ _ _ _ h => h) rfl ?_; apply Exists.intro; refine ⟨fun v1 hv1 => ?_, ?_⟩; (· (go_simp; rfl)); simp only [Act.put, List.setIfInBounds_toArray, List.set_cons_zero, List.set_cons_succ]
      refine anyT_val (But.pre _) 3 rfl (by kernel_rfl) (by kernel_rfl) (by kernel_rfl) (fun _ _ _ _ h => h) rfl ?_; apply Exists.intro; refine ⟨fun v1 hv1 => ?_, ?_⟩; (· (go_simp; rfl)); simp only [Act.put, List.setIfInBounds_toArray, List.set_cons_zero, List.set_cons_succ]
      refine anyT_val (But.pre _) 4 rfl (by kernel_rfl) (by kernel_rfl) (by kernel_rfl) (fun _ _ _ _ h => h) rfl ?_; apply Exists.intro; refine ⟨fun v1 hv1 => ?_, ?_⟩; (· (go_simp; rfl)); simp only [Act.put, List.setIfInBounds_toArray, List.set_cons_zero, List.set_cons_succ]
      refine anyT_val (But.pre _) 5 rfl (by kernel_rfl) (by kernel_rfl) (by kernel_rfl) (fun _ _ _ _ h => h) rfl ?_; apply Exists.intro; refine ⟨fun v1 hv1 => ?_, ?_⟩; (· (go_simp; rfl)); simp only [Act.put, List.setIfInBounds_toArray, List.set_cons_zero, List.set_cons_succ]
      refine anyT_val (But.pre _) 6 rfl (by kernel_rfl) (by kernel_rfl) (by kernel_rfl) (fun _ _ _ _ h => h) rfl ?_; apply Exists.intro; refine ⟨fun v1 hv1 => ?_, ?_⟩; (· (go_simp; rfl)); simp only [Act.put, List.setIfInBounds_toArray, List.set_cons_zero, List.set_cons_succ]
      refine anyT_val (But.pre _) 7 rfl (by kernel_rfl) (by kernel_rfl) (by kernel_rfl) (fun _ _ _ _ h => h) rfl ?_; apply Exists.intro; refine ⟨fun v1 hv1 => ?_, ?_⟩; (· (go_simp; rfl)); simp only [Act.put, List.setIfInBounds_toArray, List.set_cons_zero, List.set_cons_succ]
      refine anyT_val (But.pre _) 8 rfl (by kernel_rfl) (by kernel_rfl) (by kernel_rfl) (fun _ _ _ _ h => h) rfl ?_; apply Exists.intro; refine ⟨fun v1 hv1 => ?_, ?_⟩; (· (go_simp; rfl)); simp only [Act.put, List.setIfInBounds_toArray, List.set_cons_zero, List.set_cons_succ]
      refine anyT_val (But.pre _) 9 rfl (by kernel_rfl) (by kernel_rfl) (by kernel_rfl) (fun _ _ _ _ h => h) rfl ?_; apply Exists.intro; refine ⟨fun v1 hv1 => ?_, ?_⟩; (· (go_simp; rfl)); simp only [Act.put, List.setIfInBounds_toArray, List.set_cons_zero, List.set_cons_succ]
      refine anyT_val (But.pre _) 10 rfl (by kernel_rfl) (by kernel_rfl) (by kernel_rfl) (fun _ _ _ _ h => h) rfl ?_; apply Exists.intro; refine ⟨fun v1 hv1 => ?_, ?_⟩; (· (go_simp; rfl)); simp only [Act.put, List.setIfInBounds_toArray, List.set_cons_zero, List.set_cons_succ]
      refine anyT_val (But.pre _) 11 rfl (by kernel_rfl) (by kernel_rfl) (by kernel_rfl) (fun _ _ _ _ h => h) rfl ?_; apply Exists.intro; refine ⟨fun v1 hv1 => ?_, ?_⟩; (· (go_simp; rfl)); simp only [Act.put, List.setIfInBounds_toArray, List.set_cons_zero, List.set_cons_succ]
      refine anyT_val (But.pre _) 12 rfl (by kernel_rfl) (by kernel_rfl) (by kernel_rfl) (fun _ _ _ _ h => h) rfl ?_; apply Exists.intro; refine ⟨fun v1 hv1 => ?_, ?_⟩; (· (go_simp; rfl)); simp only [Act.put, List.setIfInBounds_toArray, List.set_cons_zero, List.set_cons_succ]
      refine anyT_val (But.pre _) 13 rfl (by kernel_rfl) (by kernel_rfl) (by kernel_rfl) (fun _ _ _ _ h => h) rfl ?_; apply Exists.intro; refine ⟨fun v1 hv1 => ?_, ?_⟩; (· (go_simp; rfl)); simp only [Act.put, List.setIfInBounds_toArray, List.set_cons_zero, List.set_cons_succ]
      refine anyT_val (But.pre _) 14 rfl (by kernel_rfl) (by kernel_rfl) (by kernel_rfl) (fun _ _ _ _ h => h) rfl ?_; apply Exists.intro; refine ⟨fun v1 hv1 => ?_, ?_⟩; (· (go_simp; rfl)); simp only [Act.put, List.setIfInBounds_toArray, List.set_cons_zero, List.set_cons_succ]
      refine anyT_val (But.pre _) 15 rfl (by kernel_rfl) (by kernel_rfl) (by kernel_rfl) (fun _ _ _ _ h => h) rfl ?_; apply Exists.intro; refine ⟨fun v1 hv1 => ?_, ?_⟩; (· (go_simp; rfl)); simp only [Act.put, List.setIfInBounds_toArray, List.set_cons_zero, List.set_cons_succ]
      refine anyT_one 16 rfl (by kernel_rfl) rfl ?_
      refine wp_enter 25 #[.pointer (some ⟨b, 0, none⟩), .int .u32 x.s, .int .i64 x.wz, .slice at0 x.zs.length ct0] (by go_simp) ?_
      have hsd := ld0.size
      refine (rsadd_any b b vb ld x.s x.wz (.slice at0 x.zs.length ct0) x.zs Wd (h2.later ld0) (by omega) (by omega) (by rw [← htv]; exact (HXR.out Wd (Below.mono ld0 (by omega))).mono (by omega))).mono ?_
      rintro e W2 ⟨rfl, q2⟩
      obtain ⟨l2', qq2⟩ := q2.but
      have b2 : But (Eb b wr.heap.size) Wd W2 := DSq.eb h2 qq2
      refine ⟨b2, ?_⟩
      simp only [Act.put, List.setIfInBounds_toArray, List.set_cons_zero, List.set_cons_succ]
      have e0 := c0 W2 b2
      have e1 := c1 W2 b2
      clear c0 c1 c2
      have hd2 := DT.add (t := toT x) HST.out q2
      have HAZ := hide (show adD ld x.s x.wz x.zs.length = adT (plT ds k) (toT x).s (toT x).wz (toT x).zs.length by unfold adT; rw [← HST.out, adD_strp]; rfl)
      have HD2 := hide hd2
      clear hd2 q2 qq2
      have hbw2 : Below b w W2 := hbw.trans ((Below.mono ld0 (by omega)).trans (b2.below (by omega) (fun g hg e => by have := e.1; omega)))
      have HBW := hide hbw2
      clear hbw2
      generalize adD ld x.s x.wz x.zs.length = z at *
      by_cases hz : z = 0
      · have HAT := hide (addT_yes (HAZ.out.symm.trans hz))
        subst hz
        refine anyT_val (But.pre _) 17 rfl (by kernel_rfl) (by kernel_rfl) (by kernel_rfl) (fun _ _ _ _ h => h) rfl ?_; apply Exists.intro; refine ⟨fun v1 hv1 => ?_, ?_⟩; (· (go_simp; rfl)); simp only [Act.put, List.setIfInBounds_toArray, List.set_cons_zero, List.set_cons_succ]
        refine anyT_done (by kernel_rfl) ?_
        have HAH := hide (fun W => rahead_any n x.s W)
        generalize hdd : ahd n x.s = dd at *
        have HDD : Hid (dd = ahd n (toT x).s) := hdd.symm
        clear hdd
        go_wp2_with fail
        refine (HAH.out W2).mono ?_
        rintro e w5 ⟨rfl, rfl⟩
        by_cases hd1 : 0 < dd
        · by_cases hd3 : dd < x.wz
          · go_wp2_with fail
            refine bodyPost_ret (v := .bool true) (by simp [results, Try.results17, go_sem]) rfl ?_
            exact ⟨true, rfl, by rw [HB.out]; exact HBW.out, fun h => by cases h⟩
          · go_wp2_with fail
            go_roundw
            case rel =>
              refine ⟨k + 1, by omega, by omega, by simp, by rw [HPN.out]; exact HD2.out, HBW.out, ?_⟩
              rw [HPN.out, HAT.out]
              intro t ht
              rcases List.mem_append.1 ht with h | h
              · exact HNR.out t h
              · obtain rfl : t = toT x := by simpa using h
                rw [← HDD.out]
                exact fun h => by have h2 : dd < x.wz := h.2; omega
            case measure => simp [intOf]; omega
        · go_wp2_with fail
          go_roundw
          case rel =>
            refine ⟨k + 1, by omega, by omega, by simp, by rw [HPN.out]; exact HD2.out, HBW.out, ?_⟩
            rw [HPN.out, HAT.out]
            intro t ht
            rcases List.mem_append.1 ht with h | h
            · exact HNR.out t h
            · obtain rfl : t = toT x := by simpa using h
              rw [← HDD.out]
              exact fun h => by have h2 := h.1; omega
          case measure => simp [intOf]; omega
      · have HAT := hide (addT_no (fun h => hz (HAZ.out.trans h)))
        have hzb : (z == 0) = false := by simpa using hz
        refine anyT_val (But.pre _) 17 rfl (by kernel_rfl) (by kernel_rfl) (by kernel_rfl) (fun _ _ _ _ h => h) rfl ?_; apply Exists.intro; refine ⟨fun v1 hv1 => ?_, ?_⟩; (· (go_simp; rfl)); simp only [Act.put, List.setIfInBounds_toArray, List.set_cons_zero, List.set_cons_succ]
        refine anyT_done (by kernel_rfl) ?_
        go_wp2_with fail
        go_roundw
        case rel =>
          refine ⟨k + 1, by omega, by omega, by simp, by rw [HPN.out]; exact HD2.out, HBW.out, ?_⟩
          rw [HPN.out, HAT.out]
          exact HNR.out
        case measure => simp [intOf]; omega
    · have hm : min ds.length 30 = k := by omega
      have HM := hide hm
      clear hm
      have hor : ¬ k < ds.length ∨ (k < ds.length ∧ ¬ k < 30) := by omega
      rcases hor with h | ⟨h, h'⟩
      case' inl =>
        have g1' : ¬ (k : Int) < ds.length := by omega
      case' inr =>
        have g1' : (k : Int) < ds.length := by omega
        have g2' : ¬ (k : Int) < 30 := by omega
      all_goals
        go_wp2_with fail
        refine bodyPost_ret (v := .bool false) (by simp [results, Try.results17, go_sem]) rfl ?_
        exact ⟨false, rfl, by rw [HB.out]; exact hbw, fun _ => by rw [HM.out]; exact HNR.out⟩
end Go.Proofs.Ytaaanmjmgnpcgaa

/- What numbers map to, by how far they are from the first part. -/
namespace Go.Proofs.Ytaaanmjmgnpcgaa
open Go.RowKit Go.Shelf
set_option maxRecDepth 100000
set_option linter.unusedVariables false
set_option linter.unusedSimpArgs false

theorem ahd_mod (x y : Int) : (x - y - ahd x y) % 4294967296 = 0 := by unfold ahd; split <;> omega
theorem ahd_lo (x y : Int) : -2147483648 ≤ ahd x y ∧ ahd x y < 2147483648 := by unfold ahd; split <;> omega
/-- Parts one behind the other, by how far they are from h: e where the last one ends, D all differences. -/
inductive Ch (h : Int) : List Tx → Int → Int → Prop
  | nil : Ch h [] 0 0
  | add {T : List Tx} {e D : Int} (c : Ch h T e D) (t : Tx) (o : Int) (hs : 0 ≤ t.s ∧ t.s ≤ 4294967295) (hm : (t.s - h - o) % 4294967296 = 0) (he : e ≤ o) (ho : 0 ≤ o ∧ o ≤ 536870912) (hw : 1 ≤ t.wz ∧ t.wz ≤ 128) (hn : 1 ≤ (t.zs.length : Int) ∧ (t.zs.length : Int) ≤ 128) : Ch h (T ++ [t]) (o + t.wz) (D + ((t.zs.length : Int) - t.wz))
theorem Ch.bnd {h : Int} {T : List Tx} {e D : Int} (c : Ch h T e D) : 0 ≤ e ∧ e ≤ 536871040 ∧ -(128 * (T.length : Int)) ≤ D ∧ D ≤ 128 * (T.length : Int) := by
  induction c with
  | nil => simp
  | add c t o hs hm he ho hw hn ih =>
    rw [List.length_append, List.length_singleton]
    rw [Int.natCast_add]
    omega
theorem Ch.dfz {h : Int} {T : List Tx} {e D : Int} (c : Ch h T e D) : dfz (T.map tdp) T.length = D % 4294967296 := by
  induction c with
  | nil => rfl
  | @add T e D c t o hs hm he ho hw hn ih =>
    have := dfz_snoc (T.map tdp) (tdp t)
    rw [List.length_append, List.length_map] at this
    rw [List.map_append, List.length_append]
    show Go.Proofs.Ytaaanmjmgnpcgaa.dfz (T.map tdp ++ [tdp t]) (T.length + 1) = _
    simp only [List.length_singleton] at this
    rw [this, ih]
    show (D % 4294967296 + ((t.zs.length : Int) - t.wz)) % 4294967296 = _
    omega
theorem Ch.fin {h : Int} {T : List Tx} {e D : Int} (c : Ch h T e D) (hne : T ≠ []) : (dend ((T.map tdp).getLast?.getD zDp) - h - e) % 4294967296 = 0 := by
  cases c with
  | nil => exact absurd rfl hne
  | add c t o hs hm he ho hw hn =>
    rw [List.map_append]
    show (dend ((List.map tdp _ ++ [tdp t]).getLast?.getD zDp) - h - _) % 4294967296 = 0
    rw [List.getLast?_concat]
    show ((t.s + t.wz) % 4294967296 - h - (o + t.wz)) % 4294967296 = 0
    omega
theorem mpT_snoc (T : List Tx) (t : Tx) (n : Int) : mpT (T ++ [t]) n = if bhd t.s n then mpT T n else if bhd ((t.s + t.wz) % 4294967296) n then (t.s + dfz (T.map tdp) T.length) % 4294967296 else (n + (dfz (T.map tdp) T.length + ((t.zs.length : Int) - t.wz)) % 4294967296) % 4294967296 := by
  unfold mpT
  have := dmp_snoc (T.map tdp) (tdp t) n
  rw [List.length_map] at this
  rw [List.map_append, List.length_append, List.length_singleton]
  exact this
theorem umT_snoc (T : List Tx) (t : Tx) (n : Int) : umT (T ++ [t]) n = if bhd ((t.s + dfz (T.map tdp) T.length) % 4294967296) n then umT T n else if bhd (((t.s + dfz (T.map tdp) T.length) % 4294967296 + (t.zs.length : Int)) % 4294967296) n then t.s else (n - (dfz (T.map tdp) T.length + ((t.zs.length : Int) - t.wz)) % 4294967296) % 4294967296 := by
  unfold umT
  have := dum_snoc (T.map tdp) (tdp t) n
  rw [List.length_map] at this
  rw [List.map_append, List.length_append, List.length_singleton]
  exact this
/-- Not strictly within a part. -/
def offP (h : Int) (T : List Tx) (x : Int) : Prop := ∀ t ∈ T, ∀ o, (t.s - h - o) % 4294967296 = 0 → 0 ≤ o ∧ o ≤ 536870912 → ¬ (0 < x - o ∧ x - o < t.wz)
theorem offP.pre {h : Int} {T : List Tx} {t : Tx} {x : Int} (p : offP h (T ++ [t]) x) : offP h T x := fun u hu => p u (List.mem_append_left _ hu)

/-- Where a number goes. -/
theorem Ch.two {h : Int} {T : List Tx} {e D : Int} (c : Ch h T e D) (hl : T.length ≤ 8) (x1 x2 : Int) (h1 : -1073741824 < x1 ∧ x1 < 1073741824) (h2 : -1073741824 < x2 ∧ x2 < 1073741824) (h12 : x1 ≤ x2) :
    ∃ y1 y2, mpT T ((h + x1) % 4294967296) = (h + y1) % 4294967296 ∧ mpT T ((h + x2) % 4294967296) = (h + y2) % 4294967296 ∧ (e ≤ x1 → y1 = x1 + D) ∧ (x1 < e → y1 < e + D) ∧ (e ≤ x2 → y2 = x2 + D) ∧ (x2 < e → y2 < e + D) ∧
      (-(128 * (T.length : Int)) ≤ y1 - x1 ∧ y1 - x1 ≤ 128 * (T.length : Int)) ∧ (-(128 * (T.length : Int)) ≤ y2 - x2 ∧ y2 - x2 ≤ 128 * (T.length : Int)) ∧ y1 ≤ y2 ∧ (x1 < x2 → offP h T x2 → y1 < y2) ∧ (offP h T x1 → umT T ((h + y1) % 4294967296) = (h + x1) % 4294967296) := by
  induction c with
  | nil => exact ⟨x1, x2, rfl, rfl, by omega, by omega, by omega, by omega, by simp, by simp, h12, fun h _ => h, fun _ => rfl⟩
  | @add T e D c t o hs hm he ho hw hn ih =>
    rw [List.length_append, List.length_singleton] at hl
    obtain ⟨y1, y2, m1, m2, a1, a2, a3, a4, b1, b2, hle, hlt, hum⟩ := ih (by omega)
    obtain ⟨q1, q2, q3, q4⟩ := c.bnd
    have hd := c.dfz
    have hT8 : (T.length : Int) ≤ 7 := by omega
    rw [mpT_snoc, mpT_snoc, hd]
    rw [show ((T ++ [t]).length : Int) = (T.length : Int) + 1 by simp]
    generalize (T.length : Int) = L at *
    -- where a number goes, one at a time
    have one : ∀ (x y : Int), -1073741824 < x → x < 1073741824 → mpT T ((h + x) % 4294967296) = (h + y) % 4294967296 → ∃ z, (if bhd t.s ((h + x) % 4294967296) then mpT T ((h + x) % 4294967296) else if bhd ((t.s + t.wz) % 4294967296) ((h + x) % 4294967296) then (t.s + D % 4294967296) % 4294967296 else ((h + x) % 4294967296 + (D % 4294967296 + ((t.zs.length : Int) - t.wz)) % 4294967296) % 4294967296) = (h + z) % 4294967296 ∧ (x < o → z = y) ∧ (o ≤ x → x < o + t.wz → z = o + D) ∧ (o + t.wz ≤ x → z = x + (D + ((t.zs.length : Int) - t.wz))) := by
      intro x y hx1 hx2 hm
      by_cases c1 : x < o
      · rw [bhd_t (o - x) (by omega) (by omega) (by omega)]
        exact ⟨y, by simpa using hm, fun _ => rfl, by omega, by omega⟩
      · rw [bhd_f (o - x) (by omega) (by omega) (by omega)]
        by_cases c2 : x < o + t.wz
        · rw [bhd_t (o + t.wz - x) (by omega) (by omega) (by omega)]
          refine ⟨o + D, ?_, by omega, fun _ _ => rfl, by omega⟩
          simp
          omega
        · rw [bhd_f (o + t.wz - x) (by omega) (by omega) (by omega)]
          refine ⟨x + (D + ((t.zs.length : Int) - t.wz)), ?_, by omega, by omega, fun _ => rfl⟩
          simp
          omega
    obtain ⟨z1, e1, p1, p2, p3⟩ := one x1 y1 h1.1 h1.2 m1
    obtain ⟨z2, e2, r1, r2, r3⟩ := one x2 y2 h2.1 h2.2 m2
    have hof : offP h (T ++ [t]) x2 → ¬ (0 < x2 - o ∧ x2 - o < t.wz) := fun p => p t (by simp) o hm ho
    have hof1 : offP h (T ++ [t]) x1 → ¬ (0 < x1 - o ∧ x1 - o < t.wz) := fun p => p t (by simp) o hm ho
    refine ⟨z1, z2, e1, e2, ?_, ?_, ?_, ?_, ?_, ?_, ?_, ?_, ?_⟩
    · intro k; exact p3 k
    · intro k
      by_cases c1 : x1 < o
      · have := p1 c1
        by_cases c2 : e ≤ x1
        · have := a1 c2; omega
        · have := a2 (by omega); omega
      · have := p2 (by omega) (by omega); omega
    · intro k; exact r3 k
    · intro k
      by_cases c1 : x2 < o
      · have := r1 c1
        by_cases c2 : e ≤ x2
        · have := a3 c2; omega
        · have := a4 (by omega); omega
      · have := r2 (by omega) (by omega); omega
    · by_cases c1 : x1 < o
      · have := p1 c1; omega
      · by_cases c2 : x1 < o + t.wz
        · have := p2 (by omega) c2; omega
        · have := p3 (by omega); omega
    · by_cases c1 : x2 < o
      · have := r1 c1; omega
      · by_cases c2 : x2 < o + t.wz
        · have := r2 (by omega) c2; omega
        · have := r3 (by omega); omega
    · by_cases c1 : x2 < o
      · have := r1 c1; have := p1 (by omega); omega
      · have k2 : o + D ≤ z2 := by
          by_cases c2 : x2 < o + t.wz
          · have := r2 (by omega) c2; omega
          · have := r3 (by omega); omega
        by_cases c3 : x1 < o
        · have k1 := p1 c3
          by_cases c4 : e ≤ x1
          · have := a1 c4; omega
          · have := a2 (by omega); omega
        · by_cases c4 : x1 < o + t.wz
          · have := p2 (by omega) c4; omega
          · have := p3 (by omega); have := r3 (by omega); omega
    · intro hx hp
      have hno := hof hp
      by_cases c1 : x2 < o
      · have := r1 c1; have := p1 (by omega); have := hlt hx hp.pre; omega
      · by_cases c3 : x1 < o
        · have k1 := p1 c3
          have k2 : o + D ≤ z2 := by
            by_cases c2 : x2 < o + t.wz
            · have := r2 (by omega) c2; omega
            · have := r3 (by omega); omega
          by_cases c4 : e ≤ x1
          · have := a1 c4; omega
          · have := a2 (by omega); omega
        · have k3 : o + t.wz ≤ x2 := by omega
          have := r3 k3
          by_cases c4 : x1 < o + t.wz
          · have := p2 (by omega) c4; omega
          · have := p3 (by omega); omega
    · intro hp
      have hno := hof1 hp
      rw [umT_snoc, hd]
      by_cases c3 : x1 < o
      · have k1 := p1 c3
        subst k1
        have k2 : z1 < o + D := by
          by_cases c4 : e ≤ x1
          · have := a1 c4; omega
          · have := a2 (by omega); omega
        rw [bhd_t (o + D - z1) (by omega) (by omega) (by omega)]
        simpa using hum hp.pre
      · by_cases c4 : x1 < o + t.wz
        · have k0 : x1 = o := by omega
          have k1 := p2 (by omega) c4
          subst k1
          rw [bhd_f 0 (by omega) (by omega) (by omega), bhd_t (t.zs.length : Int) (by omega) (by omega) (by omega)]
          simp
          omega
        · have k1 := p3 (by omega)
          rw [bhd_f (o + D - z1) (by omega) (by omega) (by omega), bhd_f (o + D + (t.zs.length : Int) - z1) (by omega) (by omega) (by omega)]
          simp
          omega

/-- Parts that were added one behind the other. -/
inductive CH : List Tx → Prop
  | nil : CH []
  | add {T : List Tx} (c : CH T) (t : Tx) (hs : 0 ≤ t.s ∧ t.s ≤ 4294967295) (ha : adT T t.s t.wz t.zs.length = 0) : CH (T ++ [t])
theorem plT_ch (ds : List Ap) (h : ∀ d ∈ ds, 0 ≤ d.s ∧ d.s ≤ 4294967295) : ∀ k, k ≤ ds.length → CH (plT ds k)
  | 0, _ => .nil
  | k + 1, hk => by
    rw [plT_next (by omega)]
    by_cases ha : adT (plT ds k) (toT ds[k]).s (toT ds[k]).wz (toT ds[k]).zs.length = 0
    · rw [addT_yes ha]; exact .add (plT_ch ds h k (by omega)) _ (h _ (List.getElem_mem _)) ha
    · rw [addT_no ha]; exact plT_ch ds h k (by omega)
theorem CH.ct {T : List Tx} (c : CH T) : (∀ t ∈ T, 0 ≤ ahd t.s (hdT T) ∧ ahd t.s (hdT T) ≤ 536870912) → ∃ e D, Ch (hdT T) T e D := by
  induction c with
  | nil => exact fun _ => ⟨0, 0, .nil⟩
  | @add T c t hs ha ih =>
    intro hn
    obtain ⟨k1, k2, k3, k4⟩ := adD_yes ha
    have w1 := okN_rng k1
    have w2 := okN_rng k2
    cases hT : T with
    | nil =>
      subst hT
      exact ⟨_, _, .add .nil t 0 hs (by show (t.s - t.s - 0) % 4294967296 = 0; simp) (by omega) (by omega) w1 w2⟩
    | cons a l =>
      have hne : T ≠ [] := by rw [hT]; simp
      have hem : T.isEmpty = false := by rw [hT]; rfl
      rw [← hT]
      rw [hdT_snoc t hem] at hn ⊢
      obtain ⟨e, D, c'⟩ := ih (fun u hu => hn u (List.mem_append_left _ hu))
      have hb := c'.bnd
      have ht := hn t (by simp)
      have hm := ahd_mod t.s (hdT T)
      have hf := c'.fin hne
      refine ⟨_, _, .add c' t (ahd t.s (hdT T)) hs hm ?_ ht w1 w2⟩
      unfold dps' at k3
      rw [List.isEmpty_map, hem] at k3
      have hq : ¬ ahd t.s (dend ((List.map tdp T).getLast?.getD zDp)) < 0 := by simpa using k3
      have := ahd_mod t.s (dend ((List.map tdp T).getLast?.getD zDp))
      have := ahd_lo t.s (dend ((List.map tdp T).getLast?.getD zDp))
      omega
theorem off_of {T : List Tx} {n x : Int} (hx : (n - hdT T - x) % 4294967296 = 0) (hr : -1073741824 < x ∧ x < 1073741824) (ho : ∀ t ∈ T, ¬ (0 < ahd n t.s ∧ ahd n t.s < t.wz)) : offP (hdT T) T x := fun t ht o hm hor hc => by
  have e : ahd n t.s = x - o := ahd_is (by omega) (by omega) (by omega)
  exact ho t ht (by rw [e]; exact hc)
end Go.Proofs.Ytaaanmjmgnpcgaa

/- The walks of SeqadjBack and SeqadjOrder. -/
namespace Go.Proofs.Ytaaanmjmgnpcgaa
open Go.RowKit Go.Shelf
set_option maxRecDepth 100000
set_option linter.unusedVariables false
set_option linter.unusedSimpArgs false

theorem back_math {T : List Tx} (c : CH T) (hl : T.length ≤ 8) {n : Int} (hn : 0 ≤ n ∧ n ≤ 4294967295) (hN : NearP T n) (hO : OutP T n) : (0 ≤ mpT T n ∧ mpT T n ≤ 4294967295) ∧ umT T (mpT T n) = n := by
  by_cases hT : T = []
  · subst hT
    exact ⟨hn, rfl⟩
  · obtain ⟨h1, h2, h3⟩ := hN hT
    obtain ⟨e, D, c'⟩ := c.ct h1
    have hm := ahd_mod n (hdT T)
    obtain ⟨y1, y2, m1, _, _, _, _, _, _, _, _, _, hu⟩ := c'.two hl (ahd n (hdT T)) (ahd n (hdT T)) ⟨h2, h3⟩ ⟨h2, h3⟩ (Int.le_refl _)
    have en : (hdT T + ahd n (hdT T)) % 4294967296 = n := by omega
    rw [en] at m1 hu
    have hu' := hu (off_of hm ⟨h2, h3⟩ hO)
    rw [m1]
    exact ⟨by omega, hu'⟩
theorem order_math {T : List Tx} (c : CH T) (hl : T.length ≤ 8) {n d : Int} (hn : 0 ≤ n ∧ n ≤ 4294967295) (hd : 0 ≤ d ∧ d ≤ 65535) (hN : NearP T n) (hM : NearP T ((n + d) % 4294967296)) : 0 ≤ ahd (mpT T ((n + d) % 4294967296)) (mpT T n) ∧ (0 < d → OutP T ((n + d) % 4294967296) → 0 < ahd (mpT T ((n + d) % 4294967296)) (mpT T n)) := by
  by_cases hT : T = []
  · subst hT
    have e : ahd (mpT [] ((n + d) % 4294967296)) (mpT [] n) = d := ahd_is (by show ((n + d) % 4294967296 - n - d) % 4294967296 = 0; omega) (by omega) (by omega)
    rw [e]
    exact ⟨hd.1, fun h _ => h⟩
  · obtain ⟨h1, h2, h3⟩ := hN hT
    obtain ⟨_, k2, k3⟩ := hM hT
    obtain ⟨e, D, c'⟩ := c.ct h1
    have hm := ahd_mod n (hdT T)
    have hm2 := ahd_mod ((n + d) % 4294967296) (hdT T)
    have hx : ahd ((n + d) % 4294967296) (hdT T) = ahd n (hdT T) + d := by omega
    obtain ⟨y1, y2, m1, m2, _, _, _, _, b1, b2, hle, hlt, _⟩ := c'.two hl (ahd n (hdT T)) (ahd ((n + d) % 4294967296) (hdT T)) ⟨h2, h3⟩ ⟨k2, k3⟩ (by omega)
    have en : (hdT T + ahd n (hdT T)) % 4294967296 = n := by omega
    have em : (hdT T + ahd ((n + d) % 4294967296) (hdT T)) % 4294967296 = (n + d) % 4294967296 := by omega
    rw [en] at m1
    rw [em] at m2
    rw [m1, m2]
    have hl8 : (T.length : Int) ≤ 8 := by omega
    have e : ahd ((hdT T + y2) % 4294967296) ((hdT T + y1) % 4294967296) = y2 - y1 := ahd_is (by omega) (by omega) (by omega)
    rw [e]
    refine ⟨by omega, fun hp ho => ?_⟩
    have := hlt (by omega) (off_of hm2 ⟨k2, k3⟩ ho)
    omega
theorem mpT_rng {T : List Tx} {n : Int} (hn : 0 ≤ n ∧ n ≤ 4294967295) (base : Nat) (W : World) {lp : List Pa} {ld : List Dp} (h : RT base W lp ld T) : 0 ≤ mpT T n ∧ mpT T n ≤ 4294967295 := by
  induction h with
  | nil => exact hn
  | add h t ta tc ta' tc' hs hw hl ho ho' ih =>
    rw [mpT_snoc]
    split
    · exact ih
    · split <;> omega
theorem PR.map {base : Nat} {W : World} {a b : Nat} {T : List Tx} (h : PR base W a b T) (hl : T.length ≤ 8) {n : Int} (hn : 0 ≤ n ∧ n ≤ 4294967295) : Calls Try.prog 19 #[.pointer (some ⟨a, 0, none⟩), .int .u32 n] W fun e w' => e = .returned (.int .u32 (mpT T n)) ∧ Later W w' := by
  obtain ⟨va, vb, lp, ld, h1, h2, h3, h4⟩ := h
  have := smap_any base a va lp n hn W h1 (by rw [h3.rs.len, h3.len]; omega)
  rw [h3.rs.map, h3.map] at this
  exact this
theorem PR.unm {base : Nat} {W : World} {a b : Nat} {T : List Tx} (h : PR base W a b T) (hl : T.length ≤ 8) {n : Int} (hn : 0 ≤ n ∧ n ≤ 4294967295) : Calls Try.prog 18 #[.pointer (some ⟨a, 0, none⟩), .int .u32 n] W fun e w' => e = .returned (.int .u32 (umT T n)) ∧ Later W w' := by
  obtain ⟨va, vb, lp, ld, h1, h2, h3, h4⟩ := h
  have := sunmap_any base a va lp n hn W h1 (by rw [h3.rs.len, h3.len]; omega)
  rw [h3.rs.unm, h3.unm] at this
  exact this

set_option maxHeartbeats 8000000 in
theorem walk_SeqadjBack (w : World) (sv : Value) (ds : List Ap) (hI : RdA w.heap.size w sv ds) (n : Int) (hn : 0 ≤ n ∧ n ≤ 4294967295) :
    Calls Try.prog 5 #[sv, .int .u32 n] w fun e w' => e = .returned (.bool true) ∧ Below w.heap.size w w' := by
  have HPL := hide (play11_any sv ds w w.heap.size (Nat.le_refl _) hI)
  have HNE := hide (fun W (h : Later w W) => near_any sv ds n W w.heap.size h.size (hI.below h))
  have HIN := hide (fun W (h : Later w W) => inside_any sv ds n W w.heap.size h.size (hI.below h))
  have HCH := hide (plT_ch ds (fun d hd => (hI.2 d hd).1) (min ds.length 30) (Nat.min_le_left _ _))
  have HLN := hide (plT_len ds (min ds.length 30))
  obtain ⟨aa, ca, rfl, ha1, ha2⟩ := hI.slice
  clear hI
  generalize plT ds (min ds.length 30) = T at *
  go_enter Try.func5, Try.ntmps5
  go_wp2_with fail
  refine HPL.out.mono ?_
  rintro e w1 ⟨l1, a, b, rfl, hP1⟩
  clear HPL
  go_wp2_with fail
  refine (live11_any w1).mono ?_
  rintro e w2 ⟨rfl, l2⟩
  have L2 : Later w w2 := l1.trans l2
  have hP2 := hP1.later l2
  clear hP1
  go_wp2_with fail
  refine (HNE.out w2 L2).mono ?_
  rintro e w3 ⟨r, rfl, l3, hr⟩
  have L3 : Later w w3 := L2.trans l3
  have hP3 := hP2.later l3
  clear hP2
  cases r with
  | false =>
    go_wp2_with fail
    go_ret
    exact ⟨rfl, L3⟩
  | true =>
    have HN := hide (hr rfl)
    clear hr
    go_wp2_with fail
    refine (HIN.out w3 L3).mono ?_
    rintro e w4 ⟨r, rfl, l4, hr⟩
    have L4 : Later w w4 := L3.trans l4
    have hP4 := hP3.later l4
    clear hP3
    cases r with
    | true =>
      go_wp2_with fail
      go_ret
      exact ⟨rfl, L4⟩
    | false =>
      obtain ⟨hrg, hbk⟩ := back_math HCH.out HLN.out hn HN.out (hr rfl)
      have HM := hide (hP4.map HLN.out hn)
      have HU := hide (fun W (h : Later w4 W) => (hP4.later h).unm HLN.out hrg)
      rw [hbk] at HU
      generalize mpT T n = q at *
      clear hr hbk hP4
      go_wp2_with fail
      refine HM.out.mono ?_
      rintro e w5 ⟨rfl, l5⟩
      have L5 : Later w w5 := L4.trans l5
      go_wp2_with fail
      refine (HU.out w5 l5).mono ?_
      rintro e w6 ⟨rfl, l6⟩
      have L6 : Later w w6 := L5.trans l6
      go_wp2_with fail
      go_ret
      exact ⟨by first | rfl | simp, L6⟩

set_option maxHeartbeats 8000000 in
theorem walk_SeqadjOrder (w : World) (sv : Value) (ds : List Ap) (hI : RdA w.heap.size w sv ds) (n : Int) (hn : 0 ≤ n ∧ n ≤ 4294967295) (d : Int) (hd : 0 ≤ d ∧ d ≤ 65535) :
    Calls Try.prog 6 #[sv, .int .u32 n, .int .u16 d] w fun e w' => e = .returned (.bool true) ∧ Below w.heap.size w w' := by
  have HPL := hide (play11_any sv ds w w.heap.size (Nat.le_refl _) hI)
  have HNE := hide (fun n W (h : Later w W) => near_any sv ds n W w.heap.size h.size (hI.below h))
  have HIN := hide (fun n W (h : Later w W) => inside_any sv ds n W w.heap.size h.size (hI.below h))
  have HCH := hide (plT_ch ds (fun d hd => (hI.2 d hd).1) (min ds.length 30) (Nat.min_le_left _ _))
  have HLN := hide (plT_len ds (min ds.length 30))
  obtain ⟨aa, ca, rfl, ha1, ha2⟩ := hI.slice
  clear hI
  generalize plT ds (min ds.length 30) = T at *
  go_enter Try.func6, Try.ntmps6
  go_wp2_with fail
  refine HPL.out.mono ?_
  rintro e w1 ⟨l1, a, b, rfl, hP1⟩
  clear HPL
  go_wp2_with fail
  refine (live11_any w1).mono ?_
  rintro e w2 ⟨rfl, l2⟩
  have L2 : Later w w2 := l1.trans l2
  have hP2 := hP1.later l2
  have hmr : 0 ≤ (n + d) % 4294967296 ∧ (n + d) % 4294967296 ≤ 4294967295 := by omega
  have HOM := hide (fun h1 h2 => order_math HCH.out HLN.out hn hd h1 h2)
  have HDM : Hid (0 < d ∨ d = 0) := by show _ ∨ _; omega
  generalize hmm : (n + d) % 4294967296 = m at *
  have HMM := hide hmm
  clear hP1 hd
  go_wp2_with fail
  refine (HNE.out n w2 L2).mono ?_
  rintro e w3 ⟨r, rfl, l3, hr⟩
  have L3 : Later w w3 := L2.trans l3
  have hP3 := hP2.later l3
  clear hP2
  cases r with
  | false =>
    go_wp2_with fail
    go_ret
    exact ⟨rfl, L3⟩
  | true =>
    have HN := hide (hr rfl)
    clear hr
    go_wp2_with fail
    refine (HNE.out m w3 L3).mono ?_
    rintro e w4 ⟨r, rfl, l4, hr⟩
    have L4 : Later w w4 := L3.trans l4
    have hP4 := hP3.later l4
    clear hP3
    cases r with
    | false =>
      go_wp2_with fail
      go_ret
      exact ⟨rfl, L4⟩
    | true =>
      obtain ⟨ho1, ho2⟩ := HOM.out HN.out (hr rfl)
      have HO2 := hide ho2
      have HM := hide (hP4.map HLN.out hmr)
      have HM2 := hide (fun W (h : Later w4 W) => (hP4.later h).map HLN.out hn)
      have HAH := hide (fun W => rahead_any (mpT T m) (mpT T n) W)
      clear hr hP4 ho2
      generalize hq : ahd (mpT T m) (mpT T n) = q at *
      clear hq
      generalize mpT T n = q1 at *
      generalize mpT T m = q2 at *
      go_wp2_with fail
      refine HM.out.mono ?_
      rintro e w5 ⟨rfl, l5⟩
      have L5 : Later w w5 := L4.trans l5
      go_wp2_with fail
      refine (HM2.out w5 l5).mono ?_
      rintro e w6 ⟨rfl, l6⟩
      have L6 : Later w w6 := L5.trans l6
      go_wp2_with fail
      refine (HAH.out w6).mono ?_
      rintro e w7 ⟨rfl, rfl⟩
      rcases HDM.out with hp | hp
      · go_wp2_with fail
        refine (HIN.out m w7 L6).mono ?_
        rintro e w8 ⟨r, rfl, l8, hr⟩
        have L8 : Later w w8 := L6.trans l8
        cases r with
        | true =>
          go_wp2_with fail
          go_ret
          exact ⟨by first | rfl | (simp; done) | (simp; omega), L8⟩
        | false =>
          have hlt := HO2.out hp (hr rfl)
          clear hr
          go_wp2_with fail
          go_ret
          exact ⟨by first | rfl | (simp; done) | (simp; omega), L8⟩
      · subst hp
        go_wp2_with fail
        go_ret
        exact ⟨by first | rfl | (simp; done) | (simp; omega), L6⟩
end Go.Proofs.Ytaaanmjmgnpcgaa

/- Find of both streams. -/
namespace Go.Proofs.Ytaaanmjmgnpcgaa
open Go.RowKit Go.Shelf
set_option maxRecDepth 100000
set_option linter.unusedVariables false
set_option linter.unusedSimpArgs false

theorem RT.at {base : Nat} {W : World} {lp : List Pa} {ld : List Dp} {T : List Tx} (h : RT base W lp ld T) : ∀ i (hi : i < T.length), ∃ p d, lp[i]? = some p ∧ ld[i]? = some d ∧ p.ws = T[i].s ∧ p.we = (T[i].s + T[i].wz) % 4294967296 ∧ p.tn = T[i].zs.length ∧ Ow base W (.slice p.ta p.tn p.tc) T[i].zs ∧ d.st = T[i].s ∧ d.wz = T[i].wz ∧ d.tn = T[i].zs.length ∧ Ow base W (.slice d.ta d.tn d.tc) T[i].zs ∧ (0 ≤ T[i].s ∧ T[i].s ≤ 4294967295) ∧ (1 ≤ T[i].wz ∧ T[i].wz ≤ 128) ∧ (1 ≤ (T[i].zs.length : Int) ∧ (T[i].zs.length : Int) ≤ 128) := by
  induction h with
  | nil => intro i hi; simp at hi
  | @add lp ld T h t ta tc ta' tc' hs hw hn ho ho' ih =>
    intro i hi
    have l1 : ld.length = T.length := h.len
    have l2 : lp.length = T.length := by rw [h.rs.len, h.len]
    by_cases hi' : i < T.length
    · obtain ⟨p, d, a1, a2, r⟩ := ih i hi'
      refine ⟨p, d, by rw [List.getElem?_append_left (by omega)]; exact a1, by rw [List.getElem?_append_left (by omega)]; exact a2, ?_⟩
      simp only [List.getElem_append_left hi']
      exact r
    · have e : i = T.length := by simp at hi; omega
      subst e
      refine ⟨_, _, by rw [List.getElem?_append_right (by omega), l2, Nat.sub_self]; rfl, by rw [List.getElem?_append_right (by omega), l1, Nat.sub_self]; rfl, ?_⟩
      simp only [List.getElem_concat_length]
      refine ⟨?_, ?_, ?_, ho, ?_, ?_, ?_, ho', hs, hw, hn⟩ <;> first | trivial | rfl
/-- The text of a part that is there. -/
def fdT (T : List Tx) (s wz : Int) : Option (List Int) := (T.find? (fun t => decide (t.s = s) && decide (t.wz = wz))).map Tx.zs
def FdQ (w w' : World) (e : Ending) (o : Option (List Int)) : Prop := Later w w' ∧ ∃ av cv, e = .returned (.tuple #[.slice av (o.getD []).length cv, .bool o.isSome]) ∧ Ow w.heap.size w' (.slice av (o.getD []).length cv) (o.getD [])
theorem fdT_drop {T : List Tx} {k : Nat} (h : k < T.length) (s wz : Int) : fdT (T.drop k) s wz = if (decide (T[k].s = s) && decide (T[k].wz = wz)) = true then some T[k].zs else fdT (T.drop (k + 1)) s wz := by
  unfold fdT
  rw [List.drop_eq_getElem_cons h, List.find?_cons]
  cases (decide (T[k].s = s) && decide (T[k].wz = wz)) <;> rfl
theorem fdT_end (T : List Tx) (s wz : Int) : fdT (T.drop T.length) s wz = none := by unfold fdT; rw [List.drop_length]; rfl

theorem slength_any (a b : Int) (w : World) : Calls Try.prog 34 #[.agg #[.int .u32 a, .int .u32 b]] w fun e w' => e = .returned (.int .i64 ((b - a) % 4294967296)) ∧ Later w w' := by
  have la : Later w (w.alloc (.cells #[.int .u32 a, .int .u32 b] 62)) := (Below.refl _ _).alloc (Nat.le_refl _) _
  have hn := heap_alloc_new w (.cells #[.int .u32 a, .int .u32 b] 62)
  go_enter Try.func34, Try.ntmps34
  go_upto_region 1 with fail
  generalize w.alloc _ = w0 at *
  have k0 := block_cell hn
  go_wp2_with fail
  go_ret
  exact ⟨by first | rfl | (simp; done) | (simp; omega), la⟩

/-- The program's stream alone. -/
def SP (base : Nat) (W : World) (a : Nat) (T : List Tx) : Prop := ∃ va lp ld, SL 57 base W a va lp ∧ RT base W lp ld T
theorem PR.sp {base : Nat} {W : World} {a b : Nat} {T : List Tx} (h : PR base W a b T) : SP base W a T := by
  obtain ⟨va, vb, lp, ld, h1, h2, h3, _⟩ := h
  exact ⟨va, lp, ld, h1, h3⟩
theorem SP.later {base : Nat} {A B : World} {a : Nat} {T : List Tx} (h : SP base A a T) (k : Later A B) : SP base B a T := by
  obtain ⟨va, lp, ld, h1, h3⟩ := h
  exact ⟨va, lp, ld, h1.later k, h3.keep (fun v zs ho => ho.later k)⟩
theorem SP.add {base : Nat} {w W W1 : World} {a : Nat} {va : Value} {lp : List Pa} {ld : List Dp} {T : List Tx} {t : Tx} (h1 : SL 57 base w a va lp) (hR : RT base w lp ld T) (lw : Later w W)
    (q1 : AdP base W W1 a va lp t.s t.wz t.zs) (hs : 0 ≤ t.s ∧ t.s ≤ 4294967295) : SP base W1 a (addT T t) ∧ adS lp t.s t.wz t.zs.length = adT T t.s t.wz t.zs.length := by
  have e1 : adS lp t.s t.wz t.zs.length = adT T t.s t.wz t.zs.length := by rw [hR.rs.ad, hR.ad]
  refine ⟨?_, e1⟩
  unfold AdP at q1
  rw [e1] at q1
  rcases q1 with ⟨h0, q⟩ | ⟨h0, ta, tc, q, o⟩
  · rw [addT_no h0]
    have hk := fun v zs ho => SLq.ow (h1.later lw) q v zs (Ow.later ho lw)
    obtain ⟨va', r1, _, _⟩ := q
    exact ⟨va', lp, ld, r1, hR.keep hk⟩
  · rw [addT_yes h0]
    have hk := fun v zs ho => SLq.ow (h1.later lw) q v zs (Ow.later ho lw)
    obtain ⟨va', r1, _, _⟩ := q
    obtain ⟨k1, k2, _, _⟩ := adD_yes h0
    exact ⟨va', _, _, r1, .add (hR.keep hk) t ta tc ta tc hs (okN_rng k1) (okN_rng k2) o o⟩

set_option maxHeartbeats 8000000 in
theorem sfind_any (base a : Nat) (T : List Tx) (s wz : Int) (w : World) (hP : SP base w a T) (hl : T.length ≤ 8) :
    Calls Try.prog 14 #[.pointer (some ⟨a, 0, none⟩), .int .u32 s, .int .i64 wz] w fun e w' => FdQ w w' e (fdT T s wz) := by
  obtain ⟨va, lp, ld, h1, hR⟩ := hP
  have hlp : lp.length = T.length := by rw [hR.rs.len, hR.len]
  have k0 := block_cell h1.2.1
  have HO := hide h1.2.2
  have HR := hide hR
  obtain ⟨av, cv, rfl, _, _⟩ := (ownP_rd h1.2.2).slice
  rw [hlp] at k0
  have HLP := hide hlp
  clear h1 hR hlp
  have HF0 : Hid (fdT (T.drop 0) s wz = fdT T s wz) := by show _ = _; rw [List.drop_zero]
  generalize hf : fdT T s wz = o at *
  clear hf
  go_enter Try.func14, Try.ntmps14
  go_wp2_with fail
  clear k0
  go_loopw [17] (fun i wr => ∃ k : Nat, k ≤ T.length ∧ i = .int .i64 (k : Int) ∧ Later w wr ∧ fdT (T.drop k) s wz = o) (fun i _ => T.length - (intOf i).toNat)
  case atStart => exact ⟨0, by omega, rfl, Later.refl _, HF0.out⟩
  case round =>
    obtain ⟨k, hk, rfl, lw, hfk⟩ := hrel
    by_cases hkT : k < T.length
    · have hkT' : (k : Int) < T.length := by omega
      obtain ⟨p, d, ep, _, e1, e2, e3, hot, _, _, _, _, r1, r2, r3⟩ := HR.out.at k hkT
      have hfk2 := hfk
      rw [fdT_drop hkT] at hfk2
      have HFK := hide hfk2
      have hklp : k < lp.length := by rw [HLP.out]; exact hkT
      obtain ⟨g, off, cp, e, _, _, hgn, hcs⟩ := (ownP_rd (ownP_later HO.out lw)).cells (by omega)
      rw [HLP.out] at e
      simp at e
      obtain ⟨rfl, rfl⟩ := e
      have hpk : lp[k] = p := by rw [List.getElem?_eq_getElem hklp] at ep; exact Option.some.inj ep
      have d0 := hcs k hklp 0 (by omega)
      have d1 := hcs k hklp 1 (by omega)
      have d2 := hcs k hklp 2 (by omega)
      have d3 := hcs k hklp 3 (by omega)
      have d4 := hcs k hklp 4 (by omega)
      rw [hpk] at d0 d1 d2 d3 d4
      simp only [pac, List.getElem?_cons_zero, List.getElem?_cons_succ, Nat.add_zero] at d0 d1 d2 d3 d4
      have HOT := hide (hot.later lw)
      generalize hts : T[k].s = ts at *
      generalize htw : T[k].wz = tw at *
      generalize htz : T[k].zs = tz at *
      have HE3 := hide e3
      rw [e1] at d0
      rw [e2] at d1
      have HLN := hide (slength_any ts ((ts + tw) % 4294967296))
      have hlz : ((ts + tw) % 4294967296 - ts) % 4294967296 = tw := by omega
      rw [hlz] at HLN
      clear hcs hpk ep e1 e2 e3 hfk hfk2 hts htw htz hot hlz hklp
      generalize hwe : (ts + tw) % 4294967296 = we at *
      clear hwe
      have la : Later wr (wr.alloc (.cells #[.int .u32 ts, .int .u32 we, .int .u32 p.is, .int .u32 p.ie, .slice p.ta p.tn p.tc] 65)) := (Below.refl _ _).alloc (Nat.le_refl _) _
      have hn1 := heap_alloc_new wr (.cells #[.int .u32 ts, .int .u32 we, .int .u32 p.is, .int .u32 p.ie, .slice p.ta p.tn p.tc] 65)
      go_upto_region 6 with fail
      generalize wr.alloc _ = w1 at *
      have l1 : Later w w1 := lw.trans la
      have K1 := block_cell hn1
      generalize wr.heap.size = pb at *
      clear d0 d1 d2 d3 d4
      by_cases hs1 : ts = s
      · have hb1 : (ts == s) = true := by simp [hs1]
        have X1 : Hid (decide (ts = s) = true) := decide_eq_true hs1
        clear hs1
        go_wp2_with fail
        refine (HLN.out w1).mono ?_
        rintro e w2 ⟨rfl, l2⟩
        have L2 := l1.trans l2
        have K2 := block_cell (later_keep l2 hn1)
        clear K1
        by_cases hs2 : tw = wz
        · have hb2 : (tw == wz) = true := by simp [hs2]
          have X2 : Hid (decide (tw = wz) = true) := decide_eq_true hs2
          clear hs2
          have HCL := hide (cloneb_any (.slice p.ta p.tn p.tc) tz w2 (by have := r3.2; omega) (by have := (HOT.out.later (la.trans l2)).rd; exact this))
          go_wp2_with fail
          refine HCL.out.mono ?_
          rintro e w3 ⟨xa, xc, rfl, hOw, hb3⟩
          have L3 : Later w w3 := L2.trans hb3
          clear K2
          go_wp2_with fail
          refine bodyPost_ret (v := .tuple #[.slice xa tz.length xc, .bool true]) (by simp [results, Try.results14, go_sem]) rfl ?_
          have ho : o = some tz := by rw [← HFK.out, X1.out, X2.out]; rfl
          rw [ho]
          exact ⟨L3, xa, xc, rfl, hOw.mono L2.size⟩
        · have hb2 : (tw == wz) = false := by simpa using hs2
          have X2 : Hid (decide (tw = wz) = false) := decide_eq_false hs2
          clear hs2
          go_wp2_with fail
          go_roundw
          case rel => exact ⟨k + 1, by omega, by simp, L2, by rw [← HFK.out, X1.out, X2.out]; rfl⟩
          case measure => simp [intOf]; omega
      · have hb1 : (ts == s) = false := by simpa using hs1
        have X1 : Hid (decide (ts = s) = false) := decide_eq_false hs1
        clear hs1
        go_wp2_with fail
        go_roundw
        case rel => exact ⟨k + 1, by omega, by simp, l1, by rw [← HFK.out, X1.out]; rfl⟩
        case measure => simp [intOf]; omega
    · have hkT' : ¬ (k : Int) < T.length := by omega
      have ek : k = T.length := by omega
      have HOE : Hid (o = none) := by show _ = _; rw [← hfk, ek]; exact fdT_end T s wz
      clear hfk ek
      go_wp2_with fail
      refine bodyPost_ret (v := .tuple #[.slice none 0 0, .bool false]) (by simp [results, Try.results14, go_sem]) rfl ?_
      rw [HOE.out]
      exact ⟨lw, none, 0, rfl, .inl ⟨rfl, rfl⟩⟩
end Go.Proofs.Ytaaanmjmgnpcgaa

/- What TopStreams calls: few, replaced; bytes and bools that are made and filled. -/
namespace Go.Proofs.Ytaaanmjmgnpcgaa
open Go.RowKit Go.Shelf
set_option maxRecDepth 100000
set_option linter.unusedVariables false
set_option linter.unusedSimpArgs false

theorem Rd.upto {n₀ : Nat} {A : World} {a : Option Addr} {len cap : Nat} {l : List Int} (k : Nat) (hk : k ≤ len) (h : Rd n₀ A (.slice a len cap) l) : Rd n₀ A (sliced a 0 k cap 1) (l.take k) := by
  rcases h with ⟨a', cap', e, hz, hm, hn⟩ | ⟨b, off, cap', e, hne, hl, hm, hb, hc⟩
  · cases e
    obtain rfl : k = 0 := by omega
    subst hz
    exact .inl ⟨_, _, rfl, by simp, by omega, fun h => by cases a with | none => simp [hn rfl] | some x => split at h <;> simp at h⟩
  · cases e
    by_cases h0 : k = 0
    · subst h0
      exact .inl ⟨_, _, rfl, by simp, by omega, fun h => by split at h <;> simp at h⟩
    · have hlen : (l.take k).length = k := by simp; omega
      refine .inr ⟨b, off, cap, ?_, fun e => by rw [e] at hlen; simp at hlen; omega, by omega, hm, hb, fun j hj => ?_⟩
      · rw [hlen]
        simp [sliced, Addr.add]
      · rw [hc j (by omega)]
        rw [List.getElem?_take, if_pos (by omega)]

theorem few_val (sv : Value) (zs : List Int) (n n₀ : Nat) (hn : (n : Int) ≤ 1000) (w : World) (hI : Rd n₀ w sv zs) :
    ∃ v, Rd n₀ w v (zs.take n) ∧ ∀ W, Calls Try.prog 22 #[sv, .int .i64 (n : Int)] W fun e w' => e = .returned v ∧ w' = W := by
  obtain ⟨a, cap, rfl, h1, h2⟩ := hI.slice
  by_cases hq : n < zs.length
  · have hq' : (n : Int) < (zs.length : Int) := by omega
    have hR := Rd.upto n (by omega) hI
    have hnc : n ≤ cap := by omega
    have hnc' : (n : Int) ≤ (cap : Int) := by omega
    refine ⟨_, hR, fun W => ?_⟩
    clear hI hR
    go_enter Try.func22, Try.ntmps22
    go_wp2_with fail
    go_ret
    exact ⟨by cases a <;> simp [sliced, Addr.add], rfl⟩
  · have hq' : ¬ (n : Int) < (zs.length : Int) := by omega
    have HT : zs.take n = zs := List.take_of_length_le (by omega)
    rw [HT]
    refine ⟨_, hI, fun W => ?_⟩
    clear hI HT
    go_enter Try.func22, Try.ntmps22
    go_wp2_with fail
    go_ret
    exact ⟨rfl, rfl⟩

end Go.Proofs.Ytaaanmjmgnpcgaa

/- What TopStreams calls: few, replaced; bytes and bools that are made and filled. -/
namespace Go.Proofs.Ytaaanmjmgnpcgaa
open Go.RowKit Go.Shelf
set_option maxRecDepth 100000
set_option linter.unusedVariables false
set_option linter.unusedSimpArgs false

set_option maxHeartbeats 4000000 in
theorem replaced_any (bv tv : Value) (zb zt : List Int) (st wz : Nat) (w : World) (hB : Rd w.heap.size w bv zb) (hT : Rd w.heap.size w tv zt) (hs : st + wz < zb.length) (hlb : zb.length ≤ 1000) (hlt : zt.length ≤ 1000) :
    Calls Try.prog 23 #[bv, .int .i64 (st : Int), .int .i64 (wz : Int), tv] w fun e w' => Later w w' ∧ ∃ v, e = .returned v ∧ Ow w.heap.size w' v (zb.take st ++ zt ++ zb.drop (st + wz)) := by
  obtain ⟨i0, hi, hz0, hz1, hz2⟩ := info_parts info_u8
  have hb0 : Below w.heap.size w (w.alloc (.cells #[] 5)) := (Below.refl _ w).alloc (Nat.le_refl _) _
  obtain ⟨ab, cb, rfl, hb1, hb2⟩ := hB.slice
  obtain ⟨at0, ct0, rfl, ht1, ht2⟩ := hT.slice
  have hne : 0 < zb.length := by omega
  obtain ⟨bb, off, rfl⟩ : ∃ bb off, ab = some ⟨bb, off, none⟩ := by
    rcases hB with ⟨a, c, e, hz, _⟩ | ⟨b, off, cap, e, _⟩
    · rw [hz] at hne; simp at hne
    · simp at e; exact ⟨b, off, e.1⟩
  have hR3 := Rd.drop (st + wz) (by omega) hB
  have e3 : sliced (some ⟨bb, off, none⟩) (st + wz) zb.length cb 1 = .slice (some ⟨bb, off + (st + wz), none⟩) (zb.length - (st + wz)) (cb - (st + wz)) := by
    unfold sliced
    rw [if_neg (by omega)]
    simp [Addr.add]
  rw [e3] at hR3
  obtain ⟨v1, W1, r1, o1, g1⟩ := run_app (P := Try.prog) (w.alloc (.cells #[] 5)) 24 24 5 w.heap.size i0 Try.underlying24 hi hz0 hz1 hz2 _ [] (own_empty w _) w.heap.size _ (zb.take st) (Rd.below hb0 (Rd.take st (by omega) hB)) (by simp; omega) hb0.size
  have hw1 : Below w.heap.size w W1 := below_app hb0 (own_empty w _) g1 (Nat.le_refl _) hb0.size
  rw [List.nil_append] at o1
  obtain ⟨v2, W2, r2, o2, g2⟩ := run_app (P := Try.prog) W1 24 24 5 w.heap.size i0 Try.underlying24 hi hz0 hz1 hz2 v1 (zb.take st) o1 w.heap.size _ zt (Rd.below hw1 hT) (by simp; omega) hw1.size
  have hw2 : Below w.heap.size w W2 := below_app hw1 o1 g2 (Nat.le_refl _) hw1.size
  obtain ⟨v3, W3, r3, o3, g3⟩ := run_app (P := Try.prog) W2 24 24 5 w.heap.size i0 Try.underlying24 hi hz0 hz1 hz2 v2 (zb.take st ++ zt) o2 w.heap.size _ (zb.drop (st + wz)) (Rd.below hw2 hR3) (by simp; omega) hw2.size
  have hw3 : Below w.heap.size w W3 := below_app hw2 o2 g3 (Nat.le_refl _) hw2.size
  obtain ⟨a1, c1, rfl, _, _⟩ := (Ow.of_row o1).slice
  obtain ⟨a2, c2, rfl, _, _⟩ := (Ow.of_row o2).slice
  obtain ⟨a3, c3, rfl, _, _⟩ := (Ow.of_row o3).slice
  have R1 := hide r1
  have R2 := hide r2
  have R3 := hide r3
  have HO := hide (Ow.of_row o3)
  have HW := hide hw3
  generalize (zb.take st).length = n1 at R1 R2
  generalize (zb.take st ++ zt).length = n2 at R2 R3
  generalize (zb.take st ++ zt ++ zb.drop (st + wz)).length = n3 at R3 HO
  have F3 : Hid (((st + wz : Nat) : Int) ≤ (zb.length : Int)) := by show _ ≤ _; omega
  have F4 : Hid (st + wz ≤ zb.length) := by show _ ≤ _; omega
  have F5 : Hid ((zb.length : Int) ≤ (cb : Int)) := by show _ ≤ _; omega
  have F6 : Hid ((st : Int) + (wz : Int) = ((st + wz : Nat) : Int)) := by show _ = _; omega
  have F7 : Hid (¬ cb = st + wz) := by show ¬ _; omega
  have F8 : Hid (((st + wz : Nat) : Int) ≤ 1000) := by show _ ≤ _; omega
  have f1 : (st : Int) ≤ (cb : Int) := by omega
  have f2 : st ≤ cb := by omega
  clear r1 r2 r3 o1 o2 o3 g1 g2 g3 hw1 hw2 hw3 hb0 hB hT hR3 e3 hs hlb hlt hb1 hb2 ht1 ht2 hi hz0 hz1 hz2 hne
  go_enter Try.func23, Try.ntmps23
  go_upto_region 2 with (at_builtin; refine wpList_appv rfl (.tmp 10) (.tmp 13) 24 rfl _ _ rfl rfl _ W1 R1.out ?_)
  clear f1 f2
  go_upto_region 3 with (at_builtin; refine wpList_appv rfl (.tmp 15) (.tmp 16) 24 rfl _ _ rfl rfl _ W2 R2.out ?_)
  have g1 : (st : Int) + (wz : Int) ≤ 1000 := by have := F8.out; omega
  have g3 : (st : Int) + (wz : Int) ≤ (zb.length : Int) := by have := F3.out; omega
  have g7 := F7.out
  have g5 := F5.out
  have g4 : zb.length ≤ cb := by omega
  go_wp2_with (at_builtin; refine wpList_appv rfl (.tmp 18) (.tmp 23) 24 rfl _ _ rfl rfl _ W3 R3.out ?_)
  go_ret
  exact ⟨HW.out, _, rfl, HO.out⟩
end Go.Proofs.Ytaaanmjmgnpcgaa

/- What TopStreams calls: few, replaced; bytes and bools that are made and filled. -/
namespace Go.Proofs.Ytaaanmjmgnpcgaa
open Go.RowKit Go.Shelf
set_option maxRecDepth 100000
set_option linter.unusedVariables false
set_option linter.unusedSimpArgs false

/-- The place that a byte goes to. -/
def Mi (st wz tl i : Nat) : Nat := if i ≤ st then i else if i ≤ st + wz then st + tl else i - wz + tl
def wantL (B T : List Int) (st wz : Nat) : List Int := B.take st ++ T ++ B.drop (st + wz)
def gotA (want : List Int) (m : Nat) : Array Value := ((want.take m).map (Value.int .u8) ++ List.replicate (want.length - m) (Value.int .u8 0)).toArray
def seenA (L m : Nat) : Array Value := (List.replicate m (Value.bool true) ++ List.replicate (L - m) (Value.bool false)).toArray
theorem gotA_set {want : List Int} {m : Nat} (h : m < want.length) : (gotA want m).setIfInBounds m (.int .u8 (want[m]?.getD 0)) = gotA want (m + 1) := by
  unfold gotA
  rw [List.setIfInBounds_toArray]
  congr 1
  have hl : ((want.take m).map (Value.int .u8)).length = m := by simp; omega
  rw [List.set_append_right _ _ (by omega), hl, Nat.sub_self, show want.length - m = (want.length - (m + 1)) + 1 by omega, List.replicate_succ, List.set_cons_zero, List.take_succ_eq_append_getElem h, List.map_append, List.append_assoc, List.getElem?_eq_getElem h]
  rfl
theorem seenA_set {L m : Nat} (h : m < L) : (seenA L m).setIfInBounds m (.bool true) = seenA L (m + 1) := by
  unfold seenA
  rw [List.setIfInBounds_toArray]
  congr 1
  rw [List.set_append_right _ _ (by simp), List.length_replicate, Nat.sub_self, show L - m = (L - (m + 1)) + 1 by omega, List.replicate_succ, List.set_cons_zero, List.replicate_succ', List.append_assoc]
  rfl
theorem seenA_at {L m : Nat} (h : m < L) : (seenA L m)[m]? = some (.bool false) := by
  unfold seenA
  rw [List.getElem?_toArray, List.getElem?_append_right (by simp), List.length_replicate, Nat.sub_self, show L - m = (L - (m + 1)) + 1 by omega, List.replicate_succ]
  rfl
theorem gotA_size {want : List Int} {m : Nat} (h : m ≤ want.length) : (gotA want m).size = want.length := by
  unfold gotA
  simp
  omega
theorem seenA_size {L m : Nat} (h : m ≤ L) : (seenA L m).size = L := by
  unfold seenA
  simp
  omega
theorem gotA_at {want : List Int} {m : Nat} (h : m < want.length) : (gotA want m)[m]? = some (.int .u8 0) := by
  unfold gotA
  have hl : ((want.take m).map (Value.int .u8)).length = m := by simp; omega
  rw [List.getElem?_toArray, List.getElem?_append_right (by omega), hl, Nat.sub_self, show want.length - m = (want.length - (m + 1)) + 1 by omega, List.replicate_succ]
  rfl
theorem gotA_rd {want : List Int} {W : World} {g : Nat} (hne : want ≠ []) (hm : want.length ≤ 9223372036854775807) (h : W.heap[g]? = some (.cells (gotA want want.length) 5 (0, 0))) : Rd W.heap.size W (.slice (some ⟨g, 0, none⟩) want.length want.length) want := by
  refine .inr ⟨g, 0, want.length, rfl, hne, Nat.le_refl _, hm, (Array.getElem?_eq_some_iff.1 h).1, fun j hj => ?_⟩
  rw [Nat.zero_add, block_cell h]
  unfold gotA
  rw [List.getElem?_toArray, List.take_length, Nat.sub_self, List.replicate_zero, List.append_nil, List.getElem?_map, List.getElem?_eq_getElem hj]
  rfl
theorem wantL_len {B T : List Int} {st wz : Nat} (h : st + wz ≤ B.length) : (wantL B T st wz).length = B.length - wz + T.length := by unfold wantL; simp; omega
theorem want_ahead {B T : List Int} {st wz i : Nat} (h : st + wz ≤ B.length) (hi : i < st) : (wantL B T st wz)[i]? = B[i]? := by
  unfold wantL
  rw [List.append_assoc, List.getElem?_append_left (by simp; omega), List.getElem?_take, if_pos hi]
theorem want_text {B T : List Int} {st wz k : Nat} (h : st + wz ≤ B.length) (hk : k < T.length) : (wantL B T st wz)[st + k]? = T[k]? := by
  unfold wantL
  have e : (B.take st).length = st := by simp; omega
  rw [List.append_assoc, List.getElem?_append_right (by omega), e, show st + k - st = k by omega, List.getElem?_append_left hk]
theorem want_behind {B T : List Int} {st wz i : Nat} (h : st + wz ≤ B.length) (hi : st + wz ≤ i) : (wantL B T st wz)[i - wz + T.length]? = B[i]? := by
  unfold wantL
  have e : (B.take st ++ T).length = st + T.length := by simp; omega
  rw [List.getElem?_append_right (by omega), e, List.getElem?_drop]
  congr 1
  omega
/-- Where numbers go and come from, with one part. -/
theorem mp_one (f st wz tl i : Nat) (T : List Int) (hT : T.length = tl) (hf : f ≤ 4294967295) (hw : 1 ≤ wz ∧ wz ≤ 128) (ht : 1 ≤ tl ∧ tl ≤ 128) (hs : st ≤ 1000) (hi : i ≤ 1000) (hin : i ≤ st ∨ st + wz ≤ i) : mpT [⟨((f : Int) + st) % 4294967296, wz, T⟩] (((f : Int) + i) % 4294967296) = ((f : Int) + (Mi st wz tl i : Nat)) % 4294967296 := by
  have h0 := mpT_snoc [] ⟨((f : Int) + st) % 4294967296, wz, T⟩ (((f : Int) + i) % 4294967296)
  rw [List.nil_append] at h0
  rw [h0]
  show (if bhd (((f : Int) + st) % 4294967296) (((f : Int) + i) % 4294967296) then ((f : Int) + i) % 4294967296 else if bhd ((((f : Int) + st) % 4294967296 + wz) % 4294967296) (((f : Int) + i) % 4294967296) then ((((f : Int) + st) % 4294967296) + 0) % 4294967296 else (((f : Int) + i) % 4294967296 + (0 + ((T.length : Int) - wz)) % 4294967296) % 4294967296) = _
  rw [hT]
  by_cases h1 : i < st
  · have e : Mi st wz tl i = i := if_pos (by omega)
    rw [e, bhd_t ((st : Int) - i) (by omega) (by omega) (by omega)]
    rfl
  · rw [bhd_f ((st : Int) - i) (by omega) (by omega) (by omega)]
    by_cases h2 : i = st
    · subst h2
      have e : Mi i wz tl i = i := if_pos (Nat.le_refl _)
      rw [e, bhd_t (wz : Int) (by omega) (by omega) (by omega)]
      simp
    · have e : Mi st wz tl i = i - wz + tl := by unfold Mi; rw [if_neg (by omega)]; split <;> omega
      have e2 : ((i - wz + tl : Nat) : Int) = (i : Int) - wz + tl := by omega
      rw [bhd_f ((st : Int) + wz - i) (by omega) (by omega) (by omega), e, e2]
      simp only [Bool.false_eq_true, if_false]
      omega
theorem um_one (f st wz tl i : Nat) (T : List Int) (hT : T.length = tl) (hf : f ≤ 4294967295) (hw : 1 ≤ wz ∧ wz ≤ 128) (ht : 1 ≤ tl ∧ tl ≤ 128) (hs : st ≤ 1000) (hi : i ≤ 1000) (hin : i ≤ st ∨ st + wz ≤ i) : umT [⟨((f : Int) + st) % 4294967296, wz, T⟩] (((f : Int) + (Mi st wz tl i : Nat)) % 4294967296) = ((f : Int) + i) % 4294967296 := by
  have h0 := umT_snoc [] ⟨((f : Int) + st) % 4294967296, wz, T⟩ (((f : Int) + (Mi st wz tl i : Nat)) % 4294967296)
  rw [List.nil_append] at h0
  rw [h0]
  show (if bhd (((((f : Int) + st) % 4294967296) + 0) % 4294967296) (((f : Int) + (Mi st wz tl i : Nat)) % 4294967296) then ((f : Int) + (Mi st wz tl i : Nat)) % 4294967296 else if bhd (((((((f : Int) + st) % 4294967296) + 0) % 4294967296) + (T.length : Int)) % 4294967296) (((f : Int) + (Mi st wz tl i : Nat)) % 4294967296) then ((f : Int) + st) % 4294967296 else (((f : Int) + (Mi st wz tl i : Nat)) % 4294967296 - (0 + ((T.length : Int) - wz)) % 4294967296) % 4294967296) = _
  rw [hT]
  by_cases h1 : i < st
  · have e : Mi st wz tl i = i := if_pos (by omega)
    rw [e, bhd_t ((st : Int) - i) (by omega) (by omega) (by omega)]
    rfl
  · by_cases h2 : i = st
    · subst h2
      have e : Mi i wz tl i = i := if_pos (Nat.le_refl _)
      rw [e, bhd_f 0 (by omega) (by omega) (by omega), bhd_t (tl : Int) (by omega) (by omega) (by omega)]
      rfl
    · have e : Mi st wz tl i = i - wz + tl := by unfold Mi; rw [if_neg (by omega)]; split <;> omega
      rw [e, bhd_f ((st : Int) - ((i - wz + tl : Nat) : Int)) (by omega) (by omega) (by omega), bhd_f ((st : Int) + tl - ((i - wz + tl : Nat) : Int)) (by omega) (by omega) (by omega)]
      simp
      omega
end Go.Proofs.Ytaaanmjmgnpcgaa

/- The walk of TopStreams. -/
namespace Go.Proofs.Ytaaanmjmgnpcgaa
open Go.RowKit Go.Shelf
set_option maxRecDepth 100000
set_option linter.unusedVariables false
set_option linter.unusedSimpArgs false

theorem SP.map {base : Nat} {W : World} {a : Nat} {T : List Tx} (h : SP base W a T) (hl : T.length ≤ 8) {n : Int} (hn : 0 ≤ n ∧ n ≤ 4294967295) : Calls Try.prog 19 #[.pointer (some ⟨a, 0, none⟩), .int .u32 n] W fun e w' => e = .returned (.int .u32 (mpT T n)) ∧ Later W w' := by
  obtain ⟨va, lp, ld, h1, h3⟩ := h
  have := smap_any base a va lp n hn W h1 (by rw [h3.rs.len, h3.len]; omega)
  rw [h3.rs.map, h3.map] at this
  exact this
theorem SP.unm {base : Nat} {W : World} {a : Nat} {T : List Tx} (h : SP base W a T) (hl : T.length ≤ 8) {n : Int} (hn : 0 ≤ n ∧ n ≤ 4294967295) : Calls Try.prog 18 #[.pointer (some ⟨a, 0, none⟩), .int .u32 n] W fun e w' => e = .returned (.int .u32 (umT T n)) ∧ Later W w' := by
  obtain ⟨va, lp, ld, h1, h3⟩ := h
  have := sunmap_any base a va lp n hn W h1 (by rw [h3.rs.len, h3.len]; omega)
  rw [h3.rs.unm, h3.unm] at this
  exact this
/-- Add to a stream that has none. -/
theorem SP.first (base a : Nat) (W : World) (s wz : Int) (tv : Value) (zs : List Int) (h : SP base W a []) (hb : base ≤ W.heap.size) (hs : 0 ≤ s ∧ s ≤ 4294967295) (hw : 1 ≤ wz ∧ wz ≤ 128) (hz : 1 ≤ zs.length ∧ zs.length ≤ 128) (hI : Rd W.heap.size W tv zs) :
    Calls Try.prog 13 #[.pointer (some ⟨a, 0, none⟩), .int .u32 s, .int .i64 wz, tv] W fun e w' => e = .returned (.int .i64 0) ∧ SP base w' a [⟨s, wz, zs⟩] ∧ Below base W w' := by
  obtain ⟨va, lp, ld, h1, h3⟩ := h
  have hl : lp.length = 0 := by rw [h3.rs.len, h3.len]; rfl
  have h0 : adT [] s wz zs.length = 0 := by
    unfold adT adD
    have e1 : okN wz = true := by unfold okN; simp; omega
    have e2 : okN (zs.length : Int) = true := by unfold okN; simp; omega
    rw [e1, e2]
    simp [dps']
  refine (sadd_any base a va lp s wz tv zs W h1 hb (by omega) hs hI).mono ?_
  rintro e w' ⟨rfl, q⟩
  obtain ⟨hS, he⟩ := SP.add (t := ⟨s, wz, zs⟩) h1 h3 (Later.refl _) q hs
  rw [addT_yes (t := ⟨s, wz, zs⟩) h0] at hS
  refine ⟨?_, hS, ?_⟩
  · have : adS lp s wz zs.length = 0 := he.trans h0
    rw [this]
  · obtain ⟨l', qq⟩ := q.but
    exact (SLq.eb h1 qq).below hb (fun k hk e => by have := e.1; omega)

theorem rep_cells (z : Value) (hz : z.cells = #[z]) (n : Nat) : madeCells z.cells n = (List.replicate n z).toArray := by
  rw [hz]
  apply Array.ext
  · rw [size_madeCells]; simp
  · intro i h1 h2
    simp [madeCells]
    rw [Nat.mod_one]
    rfl
theorem info_b1 : (Try.prog.info? 4).map (fun i => (i.zero, i.size, i.bytes)) = some (some (.bool false), 1, 1) := by kernel_rfl
theorem mk_u8 (w : World) (want : List Int) (L : Nat) (hL : want.length = L) (h : L ≤ 1000) : (Instr.makeSlice 24 (.int .i64 (L : Int)) (.int .i64 (L : Int))).run Try.prog w = .ok (.slice (some ⟨w.heap.size, 0, none⟩) L L) (w.alloc (.cells (gotA want 0) 5)) := by
  obtain ⟨i0, hi, hz0, hz1, hz2⟩ := info_partsP info_u8z
  have := run_make (P := Try.prog) w 24 5 i0 _ Try.underlying24 hi hz0 .i64 .i64 (L : Int) (L : Int) (by omega) (by omega) (by rw [hz2]; omega) (by omega)
  have eg : (List.replicate L (Value.int .u8 0)).toArray = gotA want 0 := by unfold gotA; rw [hL]; simp
  rw [hz1, rep_cells (Value.int .u8 0) rfl, Int.toNat_natCast, Nat.mul_one, eg] at this
  exact this
theorem mk_bool (w : World) (L : Nat) (h : L ≤ 1000) : (Instr.makeSlice 52 (.int .i64 (L : Int)) (.int .i64 (L : Int))).run Try.prog w = .ok (.slice (some ⟨w.heap.size, 0, none⟩) L L) (w.alloc (.cells (seenA L 0) 4)) := by
  obtain ⟨i0, hi, hz0, hz1, hz2⟩ := info_partsP info_b1
  have := run_make (P := Try.prog) w 52 4 i0 _ Try.underlying52 hi hz0 .i64 .i64 (L : Int) (L : Int) (by omega) (by omega) (by rw [hz2]; omega) (by omega)
  have es : (List.replicate L (Value.bool false)).toArray = seenA L 0 := by unfold seenA; simp
  rw [hz1, rep_cells (Value.bool false) rfl, Int.toNat_natCast, Nat.mul_one, es] at this
  exact this

/-- What is put next, and where it lies. -/
def DQ (want : List Int) (gb m m' : Nat) (v : Value) (W : World) : Prop := ∃ (db doff : Nat) (zd : List Int) (dc : Nat), v = .slice (some ⟨db, doff, none⟩) zd.length dc ∧ db ≠ gb ∧ db ≠ gb + 1 ∧ (∀ k, k < zd.length → W.cell? ⟨db, doff + k, none⟩ = some (.int .u8 (want[m + k]?.getD 0))) ∧ m + zd.length = m'

set_option maxHeartbeats 8000000 in
theorem walk_TopStreams (w : World) (bv tv : Value) (zb zt : List Int) (hIb : Rd w.heap.size w bv zb) (hIt : Rd w.heap.size w tv zt) (f : Nat) (hf : f ≤ 4294967295) (a0 a1 : Nat) (h0 : a0 ≤ 255) (h1 : a1 ≤ 255) :
    Calls Try.prog 8 #[.agg #[bv, tv, .int .u32 (f : Int), .int .u8 (a0 : Int), .int .u8 (a1 : Int)]] w fun e w' => e = .returned (.bool true) ∧ Below w.heap.size w w' := by
  obtain ⟨ab, cb, rfl, _, _⟩ := hIb.slice
  obtain ⟨at0, ct0, rfl, _, _⟩ := hIt.slice
  obtain ⟨vb, hRB, hFB⟩ := few_val _ zb 600 w.heap.size (by omega) w hIb
  obtain ⟨vt, hRT, hFT⟩ := few_val _ zt 100 w.heap.size (by omega) w hIt
  have HFB := hide hFB
  have HFT := hide hFT
  have hBl : (zb.take 600).length ≤ 600 := by simp; omega
  have hTl : (zt.take 100).length ≤ 100 := by simp; omega
  clear hIb hIt hFB hFT
  generalize zb.take 600 = B at *
  generalize zt.take 100 = T at *
  have lb0 : Later w (w.alloc (.cells #[.slice ab zb.length cb, .slice at0 zt.length ct0, .int .u32 (f : Int), .int .u8 (a0 : Int), .int .u8 (a1 : Int)] 49)) := (Below.refl _ _).alloc (Nat.le_refl _) _
  have c0 := heap_alloc_new w (.cells #[.slice ab zb.length cb, .slice at0 zt.length ct0, .int .u32 (f : Int), .int .u8 (a0 : Int), .int .u8 (a1 : Int)] 49)
  generalize zb.length = lzb at *
  generalize zt.length = lzt at *
  go_enter Try.func8, Try.ntmps8
  go_upto_region 1 with fail
  generalize w.alloc _ = w0 at *
  have hpb : w.heap.size < w0.heap.size := (Array.getElem?_eq_some_iff.1 c0).1
  refine anyR_begin (R := KI w0.heap.size 47 2 (List.toArray [.int .u8 (a0 : Int), .int .u8 (a1 : Int)])) (KI.pre _ _ _ _) (fun w => KI.of (Later.drew w)) 15 rfl (by kernel_rfl) (fun W5 hW5 => ?_)
  have ha : ∀ v1, KI w0.heap.size 47 2 (List.toArray [.int .u8 (a0 : Int), .int .u8 (a1 : Int)]) W5 v1 → ∀ j, v1.cell? ⟨w.heap.size, j, none⟩ = #[Value.slice ab lzb cb, .slice at0 lzt ct0, .int .u32 (f : Int), .int .u8 (a0 : Int), .int .u8 (a1 : Int)][j]? := fun v1 h => block_cell (((hW5.trans h).1.block w.heap.size hpb (by omega)).trans c0)
  refine anyR_val (KI.pre _ _ _ _) 0 rfl (by kernel_rfl) (by kernel_rfl) (by kernel_rfl) (fun _ _ _ _ h => h) rfl ?_; apply Exists.intro; refine ⟨fun v1 hv1 => ?_, ?_⟩; (· (go_simp; rfl)); simp only [Act.put, List.setIfInBounds_toArray, List.set_cons_zero, List.set_cons_succ]
  refine anyR_val (KI.pre _ _ _ _) 1 rfl (by kernel_rfl) (by kernel_rfl) (by kernel_rfl) (fun _ _ _ _ h => h) rfl ?_; apply Exists.intro; refine ⟨fun v1 hv1 => ?_, ?_⟩; (· (go_simp; rfl)); simp only [Act.put, List.setIfInBounds_toArray, List.set_cons_zero, List.set_cons_succ]
  refine anyR_take (KI.pre _ _ _ _) 2 vb rfl (by kernel_rfl) (by kernel_rfl) (by kernel_rfl) (fun _ _ _ h => h) rfl (fun w1 hw1 => goes_call 22 #[.slice ab lzb cb, .int .i64 600] (by go_simp) ((HFB.out w1).mono fun e w2 h => ⟨h.1, by rw [h.2]; exact KI.refl _⟩)) ?_
  simp only [Act.put, List.setIfInBounds_toArray, List.set_cons_zero, List.set_cons_succ]
  refine anyR_val (KI.pre _ _ _ _) 3 rfl (by kernel_rfl) (by kernel_rfl) (by kernel_rfl) (fun _ _ _ _ h => h) rfl ?_; apply Exists.intro; refine ⟨fun v1 hv1 => ?_, ?_⟩; (· (go_simp; rfl)); simp only [Act.put, List.setIfInBounds_toArray, List.set_cons_zero, List.set_cons_succ]
  refine anyR_val (KI.pre _ _ _ _) 4 rfl (by kernel_rfl) (by kernel_rfl) (by kernel_rfl) (fun _ _ _ _ h => h) rfl ?_; apply Exists.intro; refine ⟨fun v1 hv1 => ?_, ?_⟩; (· (go_simp; rfl)); simp only [Act.put, List.setIfInBounds_toArray, List.set_cons_zero, List.set_cons_succ]
  refine anyR_take (KI.pre _ _ _ _) 5 vt rfl (by kernel_rfl) (by kernel_rfl) (by kernel_rfl) (fun _ _ _ h => h) rfl (fun w1 hw1 => goes_call 22 #[.slice at0 lzt ct0, .int .i64 100] (by go_simp) ((HFT.out w1).mono fun e w2 h => ⟨h.1, by rw [h.2]; exact KI.refl _⟩)) ?_
  simp only [Act.put, List.setIfInBounds_toArray, List.set_cons_zero, List.set_cons_succ]
  refine anyR_val (KI.pre _ _ _ _) 6 rfl (by kernel_rfl) (by kernel_rfl) (by kernel_rfl) (fun _ _ _ _ h => h) rfl ?_; apply Exists.intro; refine ⟨fun v1 hv1 => ?_, ?_⟩; (· (go_simp; rfl)); simp only [Act.put, List.setIfInBounds_toArray, List.set_cons_zero, List.set_cons_succ]
  refine anyR_val (KI.pre _ _ _ _) 7 rfl (by kernel_rfl) (by kernel_rfl) (by kernel_rfl) (fun _ _ _ _ h => h) rfl ?_; apply Exists.intro; refine ⟨fun v1 hv1 => ?_, ?_⟩; (· (go_simp; rfl)); simp only [Act.put, List.setIfInBounds_toArray, List.set_cons_zero, List.set_cons_succ]
  refine anyR_val (KI.pre _ _ _ _) 8 rfl (by kernel_rfl) (by kernel_rfl) (by kernel_rfl) (fun _ _ _ _ h => h) rfl ?_; apply Exists.intro; refine ⟨fun v1 hv1 => ?_, ?_⟩; (· (go_simp; rfl)); simp only [Act.put, List.setIfInBounds_toArray, List.set_cons_zero, List.set_cons_succ]
  refine anyR_val (KI.pre _ _ _ _) 9 rfl (by kernel_rfl) (by kernel_rfl) (by kernel_rfl) (fun _ _ _ _ h => h) rfl ?_; apply Exists.intro; refine ⟨fun v1 hv1 => ?_, ?_⟩; (· (go_simp; rfl)); simp only [Act.put, List.setIfInBounds_toArray, List.set_cons_zero, List.set_cons_succ]
  clear ha
  refine anyR_one 10 rfl (by kernel_rfl) rfl (fun W6 hW6 => ?_)
  have hs6 : w0.heap.size ≤ W6.heap.size := (hW5.trans hW6).1.size
  unfold Oper.wp
  go_simp
  refine ⟨KI.of ((Below.refl _ _).alloc (Nat.le_refl _) _), ?_⟩
  refine anyR_val (KI.pre _ _ _ _) 11 rfl (by kernel_rfl) (by kernel_rfl) (by kernel_rfl) (fun _ _ _ _ h => h) rfl ?_; apply Exists.intro; refine ⟨fun v1 hv1 => ?_, ?_⟩; (· (go_simp; rfl)); simp only [Act.put, List.setIfInBounds_toArray, List.set_cons_zero, List.set_cons_succ]
  refine anyR_val (KI.pre _ _ _ _) 12 rfl (by kernel_rfl) (by kernel_rfl) (by kernel_rfl) (fun _ _ _ _ h => h) rfl ?_; apply Exists.intro; refine ⟨fun v1 hv1 => ?_, ?_⟩; (· (go_simp; rfl)); simp only [Act.put, List.setIfInBounds_toArray, List.set_cons_zero, List.set_cons_succ]
  refine anyR_val (KI.pre _ _ _ _) 13 rfl (by kernel_rfl) (by kernel_rfl) (by kernel_rfl) (fun _ _ _ _ h => h) rfl ?_; apply Exists.intro; refine ⟨fun v1 hv1 => ?_, ?_⟩; (· (go_simp; rfl)); simp only [Act.put, List.setIfInBounds_toArray, List.set_cons_zero, List.set_cons_succ]
  refine anyR_one 14 rfl (by kernel_rfl) rfl (fun W7 hW7 => ?_)
  have hwr : Wr W6.heap.size 2 47 W7 := hW7.2.1 _ ⟨_, heap_alloc_new W6 _, rfl⟩
  have hst := KI.store (n₁ := w0.heap.size) [.int .u8 (a0 : Int), .int .u8 (a1 : Int)] hs6 hwr rfl
  obtain ⟨cur, hcur, hsz⟩ := hwr
  have k7 := block_cell hcur
  have f7 := block_frozen hcur
  have HS := hide hst
  clear hst
  unfold Oper.wp
  go_simp
  generalize hV : (W7.setCell ⟨W6.heap.size, 0, none⟩ _).setCell ⟨W6.heap.size, 1, none⟩ _ = V
  have hV9 : V = putRow W7 W6.heap.size 0 [.int .u8 (a0 : Int), .int .u8 (a1 : Int)] := hV.symm
  have hst := HS.out
  rw [← hV9] at hst
  clear hV hV9 HS k7 f7
  refine ⟨hst.1, anyR_done (by kernel_rfl) (fun W8 hW8 => ?_)⟩
  have p8 := hW8.2.2 _ hst.2
  have LW8 : Later w0 W8 := ((((hW5.trans hW6).trans (KI.of ((Below.refl _ _).alloc (Nat.le_refl _) _))).trans hW7).trans (hst.1.trans hW8)).1.below (Nat.le_refl _) (fun k hk e => by omega)
  have L8 : Later w W8 := lb0.trans LW8
  generalize W6.heap.size = qb at *
  clear hst hW7 hW6 hs6 hcur hsz hW8 hW5 LW8 c0 lb0 hpb
  have hRB8 := hRB.below (Below.mono L8 (Nat.le_refl _))
  have hRT8 := hRT.below (Below.mono L8 (Nat.le_refl _))
  have hsw : w.heap.size ≤ W8.heap.size := Below.size L8
  clear hRB hRT HFB HFT
  obtain ⟨xb, yb, rfl, hyb, _⟩ := hRB8.slice
  obtain ⟨xt, yt, rfl, _, _⟩ := hRT8.slice
  clear w0
  generalize W8 = w0 at *
  go_wp2_with fail
  refine (snew_any w0).mono ?_
  rintro e w1 ⟨rfl, l1, hT1⟩
  have hS1 : SP w0.heap.size w1 w0.heap.size [] := ⟨_, _, _, hT1, .nil⟩
  have q1 := later_keep l1 p8
  have L1 := L8.trans l1
  have hs01 : w0.heap.size ≤ w1.heap.size := Below.size l1
  clear hT1 p8
  generalize hsb : w0.heap.size = sb at *
  have hf' : (0 : Int) ≤ f ∧ (f : Int) ≤ 4294967295 := by omega
  by_cases hB2 : B.length < 2
  · have hB2' : (B.length : Int) < 2 := by omega
    have HM := hide (hS1.map (by simp) (n := (f : Int)) hf')
    rw [show mpT [] (f : Int) = (f : Int) from rfl] at HM
    go_wp2_with fail
    refine HM.out.mono ?_
    rintro e w2 ⟨rfl, l2⟩
    have la : Later w2 (w2.alloc (.cells #[.int .u8 1] 5)) := (Below.refl _ _).alloc (Nat.le_refl _) _
    have hR1 := Rd.new [1] 5 w2 (by simp) (by simp)
    have L2 := L1.trans l2
    have HA := hide (SP.first sb sb (w2.alloc (.cells #[.int .u8 1] 5)) (f : Int) 1 (.slice (some ⟨w2.heap.size, 0, none⟩) 1 1) [1] (hS1.later (l2.trans la)) (by have := Below.size l2; simp; omega) hf' (by omega) (by simp) (by simpa using hR1))
    have L3 := L2.trans la
    clear hR1 HM
    go_wp2_with fail
    generalize w2.alloc _ = w3 at *
    refine HA.out.mono ?_
    rintro e w4 ⟨rfl, _, b4⟩
    have hfin : Below w.heap.size w w4 := Below.trans L3 (b4.mono hsw)
    go_wp2_with fail
    go_ret
    exact ⟨by first | rfl | simp, hfin⟩
  · have hB2' : ¬ (B.length : Int) < 2 := by omega
    by_cases hT0 : T.length = 0
    · have hT0' : ((T.length : Int) == 0) = true := by simp [hT0]
      clear hT0
      have HM := hide (hS1.map (by simp) (n := (f : Int)) hf')
      rw [show mpT [] (f : Int) = (f : Int) from rfl] at HM
      go_wp2_with fail
      refine HM.out.mono ?_
      rintro e w2 ⟨rfl, l2⟩
      have la : Later w2 (w2.alloc (.cells #[.int .u8 1] 5)) := (Below.refl _ _).alloc (Nat.le_refl _) _
      have hR1 := Rd.new [1] 5 w2 (by simp) (by simp)
      have L2 := L1.trans l2
      have HA := hide (SP.first sb sb (w2.alloc (.cells #[.int .u8 1] 5)) (f : Int) 1 (.slice (some ⟨w2.heap.size, 0, none⟩) 1 1) [1] (hS1.later (l2.trans la)) (by have := Below.size l2; simp; omega) hf' (by omega) (by simp) (by simpa using hR1))
      have L3 := L2.trans la
      clear hR1 HM
      go_wp2_with fail
      generalize w2.alloc _ = w3 at *
      refine HA.out.mono ?_
      rintro e w4 ⟨rfl, _, b4⟩
      have hfin : Below w.heap.size w w4 := Below.trans L3 (b4.mono hsw)
      go_wp2_with fail
      go_ret
      exact ⟨by first | rfl | simp, hfin⟩
    · have hT0' : ((T.length : Int) == 0) = false := by rw [beq_eq_false_iff_ne]; omega
      have hTp : 1 ≤ T.length := by omega
      clear hT0
      have k1 := block_cell q1
      have hm1 : ¬ (B.length : Int) - 1 = 0 := by omega
      go_upto_region 6 with fail
      obtain ⟨st, hst⟩ : ∃ st : Nat, (a0 : Int) % ((B.length : Int) - 1) = (st : Int) := ⟨((a0 : Int) % ((B.length : Int) - 1)).toNat, by have := Int.emod_nonneg (a0 : Int) hm1; omega⟩
      have hst1 : st + 2 ≤ B.length := by have := Int.emod_lt_of_pos (a0 : Int) (show 0 < (B.length : Int) - 1 by omega); omega
      rw [hst]
      have g1 : (B.length : Int) ≤ 600 := by omega
      have g2 : (st : Int) + 2 ≤ (B.length : Int) := by omega
      have hm2 : ¬ (B.length : Int) - (st : Int) - 1 = 0 := by omega
      have hq0 : (0 : Int) ≤ (a1 : Int) % ((B.length : Int) - (st : Int) - 1) := Int.emod_nonneg _ hm2
      have hq1 : (a1 : Int) % ((B.length : Int) - (st : Int) - 1) < (B.length : Int) - (st : Int) - 1 := Int.emod_lt_of_pos _ (by omega)
      have e1 : IntKind.i64.wrap ((B.length : Int) - (st : Int)) = (B.length : Int) - (st : Int) := by rw [IntKind.wrap_i64]; omega
      clear hst hm1
      go_upto_if 66 with fail
      have hwb : 1 ≤ (a1 : Int) % ((B.length : Int) - (st : Int) - 1) + 1 ∧ (a1 : Int) % ((B.length : Int) - (st : Int) - 1) + 1 ≤ (B.length : Int) - (st : Int) - 1 := by omega
      generalize hwz : (a1 : Int) % ((B.length : Int) - (st : Int) - 1) + 1 = wq at *
      go_cut [9] (fun v wx => (∃ wz : Nat, v = .int .i64 (wz : Int) ∧ 1 ≤ wz ∧ wz ≤ 128 ∧ st + wz < B.length) ∧ wx = w1)
      case first =>
        by_cases hbig : 128 < wq
        · clear hwz
          go_wp2_with fail
          go_meet
          case rel => exact ⟨⟨128, rfl, by omega, by omega, by omega⟩, rfl⟩
        · go_wp2_with fail
          go_meet
          case rel => exact ⟨⟨wq.toNat, by rw [Int.toNat_of_nonneg (by omega)], by omega, by omega, by omega⟩, rfl⟩
      case rest =>
        obtain ⟨⟨wz, rfl, hw1, hw2, hw3⟩, rfl⟩ := hcut
        generalize wc = w1 at *
        have hBne : 0 < B.length := by omega
        obtain ⟨bb, boff, hxb⟩ : ∃ bb boff, xb = some ⟨bb, boff, none⟩ := by
          rcases hRB8 with ⟨a, c, e, hz, _⟩ | ⟨b, o, c, e, _⟩
          · rw [hz] at hBne; simp at hBne
          · simp at e; exact ⟨b, o, e.1⟩
        subst hxb
        have hRBc := hRB8.below (Below.mono l1 (by rw [hsb]; exact hsw))
        have hRTc := hRT8.below (Below.mono l1 (by rw [hsb]; exact hsw))
        have hbs : bb < w.heap.size := by
          rcases hRBc with ⟨a, c, e, hz, _⟩ | ⟨b, o, c, e, _, _, _, hb, _⟩
          · rw [hz] at hBne; simp at hBne
          · simp at e; rw [e.1.1]; exact hb
        have HAD := hide (SP.first sb sb w1 (((f : Int) + st) % 4294967296) (wz : Int) (.slice xt T.length yt) T hS1 (by omega) (by omega) (by omega) (by omega) (hRTc.mono (by omega)))
        clear hwz hq0 hq1 e1 hm2 hwb hRB8 hRT8 hf'
        go_upto_region 9 with fail
        go_wp2_with fail
        refine HAD.out.mono ?_
        rintro e w2 ⟨rfl, hS2, b2⟩
        clear HAD hS1
        have hRB2 := hRBc.below (b2.mono hsw)
        have hRT2 := hRTc.below (b2.mono hsw)
        have L2 : Below w.heap.size w w2 := Below.trans L1 (b2.mono hsw)
        have hsz2 := b2.size
        have HRP := hide (replaced_any (.slice (some ⟨bb, boff, none⟩) B.length yb) (.slice xt T.length yt) B T st wz w2 (hRB2.mono (by omega)) (hRT2.mono (by omega)) hw3 (by omega) (by omega))
        have HR2 := hide hRB2
        clear hRBc hRTc hRB2 hRT2 q1 k1
        go_wp2_with fail
        refine HRP.out.mono ?_
        rintro e w3 ⟨l3, wv, rfl, hO3⟩
        have hO3' : Ow w2.heap.size w3 wv (wantL B T st wz) := hO3
        clear HRP hO3
        obtain ⟨wa, wcap, rfl, _, _⟩ := hO3'.slice
        have HLW := hide (wantL_len (B := B) (T := T) (st := st) (wz := wz) (by omega))
        have HW3 := hide hO3'
        clear hO3'
        generalize hwant : wantL B T st wz = want at *
        have HWANT := hide hwant
        clear hwant
        have hLw : want.length ≤ 1000 := by have := HLW.out; omega
        have hLw' : (want.length : Int) ≤ 1000 := by omega
        have hLp : 0 < want.length := by have := HLW.out; omega
        have L3 : Below w.heap.size w w3 := L2.trans (Below.mono l3 (by omega))
        have hS3 := hS2.later l3
        have hsz3 : w2.heap.size ≤ w3.heap.size := Below.size l3
        clear hS2
        generalize hL : want.length = L at *
        have HL := hide hL
        clear hL
        go_wp2_with fail
        rw [mk_u8 w3 want L HL.out hLw]
        go_wp2_with fail
        have la4 : Later w3 (w3.alloc (.cells (gotA want 0) 5)) := (Below.refl _ _).alloc (Nat.le_refl _) _
        have hg4 := heap_alloc_new w3 (.cells (gotA want 0) 5)
        have hs4 : (w3.alloc (.cells (gotA want 0) 5)).heap.size = w3.heap.size + 1 := by simp
        generalize w3.alloc _ = w4 at *
        rw [mk_bool w4 L hLw]
        have la5 : Later w4 (w4.alloc (.cells (seenA L 0) 4)) := (Below.refl _ _).alloc (Nat.le_refl _) _
        have hg5 := heap_alloc_new w4 (.cells (seenA L 0) 4)
        have L35 := la4.trans la5
        have hg4 := later_keep la5 hg4
        go_wp2_with fail
        generalize w4.alloc _ = w5 at *
        rw [hs4] at hg5
        clear la4 la5 hs4
        have HG4 := hide hg4
        have HG5 := hide hg5
        clear hg4 hg5
        have hgb : w.heap.size ≤ w3.heap.size := Below.size L3
        have HS := hide (fun W (h : Later w3 W) => hS3.later h)
        have HF3 := hide (fun W (h : Later w3 W) => HW3.out.later h)
        have HRB := hide (fun W (h : Later w3 W) => HR2.out.below ((Below.mono l3 (by omega)).trans (Below.mono h hgb)))
        clear HW3 HR2
        generalize hgg : w3.heap.size = gb at *
        have HGG := hide hgg
        clear hgg
        go_loopw [13] (fun iv wr => ∃ i : Nat, i ≤ B.length ∧ iv = .int .i64 (i : Int) ∧ Later w3 wr ∧ wr.heap[gb]? = some (.cells (gotA want (Mi st wz T.length i)) 5 (0, 0)) ∧ wr.heap[gb + 1]? = some (.cells (seenA L (Mi st wz T.length i)) 4 (0, 0))) (fun iv _ => B.length - (intOf iv).toNat)
        case atStart => exact ⟨0, by omega, rfl, L35, HG4.out, HG5.out⟩
        case round =>
          obtain ⟨i, hi, rfl, lr, hgr, hsr⟩ := hrel
          by_cases hiB : i < B.length
          · have hiB' : (i : Int) < B.length := by omega
            by_cases hin : st < i ∧ i < st + wz
            · have c1 : (st : Int) < (i : Int) := by omega
              have c2 : (i : Int) < (st : Int) + (wz : Int) := by omega
              have HMI : Hid (Mi st wz T.length (i + 1) = Mi st wz T.length i) := by show _ = _; unfold Mi; rw [if_neg (by omega), if_pos (by omega), if_neg (by omega), if_pos (by omega)]
              have HGR := hide hgr
              have HSR := hide hsr
              clear hgr hsr
              go_wp2_with fail
              go_roundw
              case rel => exact ⟨i + 1, by omega, by simp, lr, by rw [HMI.out]; exact HGR.out, by rw [HMI.out]; exact HSR.out⟩
              case measure => simp [intOf]; omega
            · have hout : i ≤ st ∨ st + wz ≤ i := by omega
              have HGR := hide hgr
              have HSR := hide hsr
              clear hgr hsr
              have k1 : (i : Int) + 1 ≤ (yb : Int) := by omega
              have k2 : ¬ yb = i := by omega
              have k3 : i + 1 ≤ yb := by omega
              have k4 : (i : Int) ≤ 1000 := by omega
              have hmi : Mi st wz T.length (i + 1) ≤ L := by have := HLW.out; unfold Mi; split <;> (try split) <;> omega
              have HMI := hide hmi
              have HMP := hide (mp_one f st wz T.length i T rfl hf ⟨hw1, hw2⟩ (by omega) (by omega) (by omega) hout)
              have HUP := hide (um_one f st wz T.length i T rfl hf ⟨hw1, hw2⟩ (by omega) (by omega) (by omega) hout)
              have HMC := hide (fun W (h : Later w3 W) => (HS.out W h).map (by simp) (n := ((f : Int) + i) % 4294967296) (by omega))
              rw [HMP.out] at HMC
              have HUC := hide (fun W (h : Later w3 W) => (HS.out W h).unm (by simp) (n := ((f : Int) + (Mi st wz T.length i : Nat)) % 4294967296) (by omega))
              rw [HUP.out] at HUC
              have hmB : Mi st wz T.length i ≤ 1000 := by unfold Mi; split <;> (try split) <;> omega
              have hqe : (((f : Int) + (Mi st wz T.length i : Nat)) % 4294967296 - (f : Int)) % 4294967296 = ((Mi st wz T.length i : Nat) : Int) := by omega
              clear hmB
              have HQE := hide hqe
              have HFD := hide (fun W (h : Later w3 W) => sfind_any sb sb _ (((f : Int) + st) % 4294967296) (wz : Int) W (HS.out W h) (by simp))
              have hfd1 : fdT [⟨((f : Int) + st) % 4294967296, (wz : Int), T⟩] (((f : Int) + st) % 4294967296) (wz : Int) = some T := by unfold fdT; simp
              rw [hfd1] at HFD
              clear hfd1 hmi hqe HMP HUP
              have hbc : wr.cell? ⟨bb, boff + i, none⟩ = some (.int .u8 (B[i]?.getD 0)) := by
                rcases HRB.out wr lr with ⟨a, c, e, hz, _⟩ | ⟨b, o, c, e, _, _, _, hb, hc⟩
                · rw [hz] at hiB; simp at hiB
                · simp at e
                  rw [e.1.1, e.1.2]
                  exact hc i hiB
              have HBC := hide hbc
              clear hbc
              rcases (show i = st ∨ i < st ∨ (st < i ∧ ¬ i < st + wz) by omega) with his | hc | ⟨hc, hc'⟩
              case' inl =>
                have c1 : ¬ (st : Int) < (i : Int) := by omega
                have hib : ((i : Int) == (st : Int)) = true := by simp [his]
                have HIS := hide his
                clear his
              case' inr.inl =>
                have c1 : ¬ (st : Int) < (i : Int) := by omega
                have hib : ((i : Int) == (st : Int)) = false := by rw [beq_eq_false_iff_ne]; omega
                have HIS : Hid (¬ i = st) := by show ¬ _; omega
              case' inr.inr =>
                have c1 : (st : Int) < (i : Int) := by omega
                have c2 : ¬ (i : Int) < (st : Int) + (wz : Int) := by omega
                have hib : ((i : Int) == (st : Int)) = false := by rw [beq_eq_false_iff_ne]; omega
                have HIS : Hid (¬ i = st) := by show ¬ _; omega
              all_goals
                go_upto_if 110 with fail
                go_cut [14] (fun v wx => DQ want gb (Mi st wz T.length i) (Mi st wz T.length (i + 1)) v wx ∧ Later wr wx)
                case first =>
                  first
                  | (have hi' : i = st := HIS.out
                     clear hi'
                     go_wp2_with fail
                     refine (HFD.out wr lr).mono ?_
                     rintro e w7 ⟨l7, xa, xc, rfl, hO7⟩
                     simp only [Option.getD_some, Option.isSome_some] at hO7 ⊢
                     obtain ⟨g, hxa, hg, cur, hh, ht⟩ : ∃ g, xa = some ⟨g, 0, none⟩ ∧ wr.heap.size ≤ g ∧ ∃ cur : Array Value, w7.heap[g]? = some (.cells cur 5 (0, 0)) ∧ cur.toList.take T.length = T.map (Value.int .u8) := by
                       rcases hO7 with ⟨_, e⟩ | ⟨g, cap, cur, e, hg, hl, hcp, hm, hh, ht⟩
                       · exact absurd hTp (by rw [e]; simp)
                       · simp at e
                         exact ⟨g, e.1, hg, cur, hh, ht⟩
                     subst hxa
                     clear hO7
                     have HH := hide hh
                     have HTT := hide ht
                     clear hh ht
                     go_wp2_with fail
                     go_meet
                     case rel =>
                       have hi' : i = st := HIS.out
                       have hwr : gb + 1 < wr.heap.size := (Array.getElem?_eq_some_iff.1 HSR.out).1
                       refine ⟨⟨g, 0, T, xc, rfl, by omega, by omega, fun k hk => ?_, ?_⟩, l7⟩
                       · rw [Nat.zero_add, block_cell HH.out, cur_at HTT.out k hk]
                         have e1 : Mi st wz T.length i = st := by unfold Mi; rw [if_pos (by omega), hi']
                         rw [e1, ← HWANT.out, want_text (by omega) hk]
                       · unfold Mi
                         rw [if_pos (by omega), if_neg (by omega), if_pos (by omega), hi'])
                  | (have hi' : ¬ i = st := HIS.out
                     clear hi'
                     go_wp2_with fail
                     go_meet
                     case rel =>
                       have hi' : ¬ i = st := HIS.out
                       refine ⟨⟨bb, boff + i, [B[i]?.getD 0], yb - i, by simp, by omega, by omega, fun k hk => ?_, ?_⟩, Later.refl _⟩
                       · obtain rfl : k = 0 := by simpa using hk
                         rw [Nat.add_zero, Nat.add_zero, HBC.out, ← HWANT.out]
                         by_cases h1 : i < st
                         · have e1 : Mi st wz T.length i = i := if_pos (by omega)
                           rw [e1, want_ahead (by omega) h1]
                         · have e1 : Mi st wz T.length i = i - wz + T.length := by unfold Mi; rw [if_neg (by omega)]; split <;> omega
                           rw [e1, want_behind (by omega) (by omega)]
                       · show Mi st wz T.length i + 1 = Mi st wz T.length (i + 1)
                         unfold Mi
                         split <;> (try split) <;> (try split) <;> (try split) <;> omega)
                case rest =>
                  obtain ⟨⟨db, doff, zd, dc, rfl, hd1, hd2, hdc, hmz⟩, lx⟩ := hcut
                  generalize wc = wx at *
                  have hMI := HMI.out
                  have hmL : Mi st wz T.length i + zd.length ≤ L := by rw [hmz]; exact hMI
                  have LX : Later w3 wx := lr.trans lx
                  have HMZ := hide hmz
                  have HDC := hide hdc
                  have hqe := HQE.out
                  clear hmz hdc hMI
                  generalize hm : Mi st wz T.length i = m at *
                  have HM := hide hm
                  clear hm
                  generalize ((f : Int) + (m : Nat)) % 4294967296 = q at *
                  have hmi : (m : Int) ≤ 1000 := by omega
                  go_wp2_with fail
                  refine (HMC.out wx LX).mono ?_
                  rintro e w8 ⟨rfl, l8⟩
                  have L8' : Later w3 w8 := LX.trans l8
                  have hg8 := later_keep (lx.trans l8) HGR.out
                  have hs8 := later_keep (lx.trans l8) HSR.out
                  have HDC8 := hide (fun k (hk : k < zd.length) => l8.cell (HDC.out k hk))
                  have HG8 := hide hg8
                  have HS8 := hide hs8
                  clear hg8 hs8
                  go_wp2_with fail
                  go_loopw [16] (fun kv wq => ∃ k : Nat, k ≤ zd.length ∧ kv = .int .i64 (k : Int) ∧ But (fun g => g = gb ∨ g = gb + 1) w8 wq ∧ wq.heap[gb]? = some (.cells (gotA want (m + k)) 5 (0, 0)) ∧ wq.heap[gb + 1]? = some (.cells (seenA L (m + k)) 4 (0, 0))) (fun kv _ => zd.length - (intOf kv).toNat)
                  case atStart => exact ⟨0, by omega, rfl, But.refl _ _, HG8.out, HS8.out⟩
                  case round =>
                    rename World => wq
                    obtain ⟨k, hk, rfl, bq, hgq, hsq⟩ := hrel
                    by_cases hkz : k < zd.length
                    · have hkz' : (k : Int) < zd.length := by omega
                      have hmk : m + k < L := by omega
                      have p1 : (m : Int) + (k : Int) < (L : Int) := by omega
                      have p2 : ¬ (m : Int) + (k : Int) < 0 := by omega
                      have p3 : ¬ (L : Int) ≤ (m : Int) + (k : Int) := by omega
                      have p4 : (0 : Int) ≤ (m : Int) + (k : Int) := by omega
                      have cd := bq.cell (HDC8.out k hkz) (fun e => by rcases e with e | e; (· exact hd1 e); (· exact hd2 e))
                      have hgk := (block_cell hgq (m + k)).trans (gotA_at (by rw [HL.out]; exact hmk))
                      have hsk := (block_cell hsq (m + k)).trans (seenA_at hmk)
                      have fg := block_frozen hgq
                      have fs := block_frozen hsq
                      have HGQ := hide hgq
                      have HSQ := hide hsq
                      clear hgq hsq
                      go_upto_region 24 with fail
                      generalize hV : (wq.setCell ⟨gb, m + k, none⟩ (.int .u8 (want[m + k]?.getD 0))).setCell ⟨gb + 1, m + k, none⟩ (.bool true) = V
                      have hV1 : V.heap[gb]? = some (.cells (gotA want (m + (k + 1))) 5 (0, 0)) := by
                        rw [← hV]
                        have := heap_set1 HGQ.out (m + k) (.int .u8 (want[m + k]?.getD 0))
                        rw [gotA_set (by rw [HL.out]; exact hmk)] at this
                        exact (Below.heap_setCell _ ⟨gb + 1, m + k, none⟩ _ gb (by simp)).trans this
                      have hV2 : V.heap[gb + 1]? = some (.cells (seenA L (m + (k + 1))) 4 (0, 0)) := by
                        rw [← hV]
                        have h1 : (wq.setCell ⟨gb, m + k, none⟩ (.int .u8 (want[m + k]?.getD 0))).heap[gb + 1]? = some (.cells (seenA L (m + k)) 4 (0, 0)) := (Below.heap_setCell _ ⟨gb, m + k, none⟩ _ (gb + 1) (by simp)).trans HSQ.out
                        have := heap_set1 h1 (m + k) (.bool true)
                        rw [seenA_set hmk] at this
                        exact this
                      have hV3 : But (fun g => g = gb ∨ g = gb + 1) w8 V := by
                        rw [← hV]
                        exact (bq.setCell (p := ⟨gb, m + k, none⟩) (.inl rfl) _).setCell (p := ⟨gb + 1, m + k, none⟩) (.inr rfl) _
                      have HV1 := hide hV1
                      have HV2 := hide hV2
                      have HV3 := hide hV3
                      clear hV hV1 hV2 hV3 cd hgk hsk fg fs
                      go_wp2_with fail
                      go_roundw
                      case rel => exact ⟨k + 1, by omega, by simp, HV3.out, HV1.out, HV2.out⟩
                      case measure => simp [intOf]; omega
                    · have hkz' : ¬ (k : Int) < zd.length := by omega
                      have ek : k = zd.length := by omega
                      have HGQ : Hid (wq.heap[gb]? = some (.cells (gotA want (Mi st wz T.length (i + 1))) 5 (0, 0))) := by show _ = _; rw [← HMZ.out, ← ek]; exact hgq
                      have HSQ : Hid (wq.heap[gb + 1]? = some (.cells (seenA L (Mi st wz T.length (i + 1))) 4 (0, 0))) := by show _ = _; rw [← HMZ.out, ← ek]; exact hsq
                      have h8s : gb ≤ w8.heap.size := by rw [← HGG.out]; exact Below.size L8'
                      have LQ : Later w3 wq := by
                        show Below w3.heap.size w3 wq
                        rw [HGG.out]
                        exact Below.trans (by rw [← HGG.out]; exact L8') (bq.below h8s (fun g hg e => by rcases e with e | e <;> omega))
                      clear hgq hsq ek bq
                      have hfi : 0 ≤ ((f : Int) + i) % 4294967296 := by omega
                      go_wp2_with fail
                      refine (HMC.out wq LQ).mono ?_
                      rintro e w9 ⟨rfl, l9⟩
                      have L9 := LQ.trans l9
                      have g9 := later_keep l9 HGQ.out
                      have s9 := later_keep l9 HSQ.out
                      go_wp2_with fail
                      refine (HUC.out w9 L9).mono ?_
                      rintro e w10 ⟨rfl, l10⟩
                      have L10 := L9.trans l10
                      have G10 := hide (later_keep l10 g9)
                      have S10 := hide (later_keep l10 s9)
                      clear g9 s9
                      go_wp2_with fail
                      go_roundw
                      case rel => exact ⟨i + 1, by omega, by simp, L10, G10.out, S10.out⟩
                      case measure => simp [intOf]; omega
          · have hiB' : ¬ (i : Int) < B.length := by omega
            have ei : i = B.length := by omega
            have eM : Mi st wz T.length i = L := by have := HLW.out; unfold Mi; rw [if_neg (by omega), if_neg (by omega)]; omega
            rw [eM] at hgr hsr
            have hgr' := hgr
            rw [← HL.out] at hgr'
            have hne : want ≠ [] := by intro e; rw [e] at HL; have := HL.out; simp at this; omega
            have hRg := gotA_rd (W := wr) (g := gb) hne (by have := HL.out; omega) hgr'
            rw [HL.out] at hRg
            have q1 := conv_rd 24 9 5 Try.underlying24 Try.underlying5 Try.underlying9 hRg
            have q2 := conv_rd 24 9 5 Try.underlying24 Try.underlying5 Try.underlying9 (HF3.out wr lr).rd
            have HUP := hide (um_one f st wz T.length i T rfl hf ⟨hw1, hw2⟩ (by omega) (by omega) (by omega) (by omega))
            have HUC := hide (fun W (h : Later w3 W) => (HS.out W h).unm (by simp) (n := ((f : Int) + (Mi st wz T.length i : Nat)) % 4294967296) (by omega))
            rw [HUP.out, eM, ei] at HUC
            have LE : Below w.heap.size w wr := L3.trans (Below.mono lr (by rw [HGG.out]; exact hgb))
            clear hgr hsr hgr' hRg eM ei HUP
            go_wp2_with fail
            refine (HUC.out wr lr).mono ?_
            rintro e w9 ⟨rfl, l9⟩
            go_wp2_with fail
            refine bodyPost_ret (v := .bool true) (by first | (simp [results, Try.results8, go_sem]; done) | (simp [results, Try.results8, go_sem]; omega)) rfl ?_
            exact ⟨rfl, LE.trans (Below.mono l9 (Below.size LE))⟩
end Go.Proofs.Ytaaanmjmgnpcgaa

/- How an argument that is a stream's bytes, a text, a number and a place reads. -/
namespace Go.Proofs.Ytaaanmjmgnpcgaa
open Go.ChangeShapes Go.WideShapes Go.ChangeAt Go.RowKit Go.Joins
set_option maxRecDepth 100000
set_option linter.unusedVariables false
set_option linter.unusedSimpArgs false

theorem arr5k {α : Type} {l : Array α} (h : l.size = 5) : ∃ a b c d e, l = #[a, b, c, d, e] := by
  obtain ⟨l⟩ := l
  match l, h with
  | [a, b, c, d, e], _ => exact ⟨a, b, c, d, e, rfl⟩
theorem lst4k {α : Type} {l : List α} (h : l.length = 4) : ∃ a b c d, l = [a, b, c, d] := by
  match l, h with
  | [a, b, c, d], _ => exact ⟨a, b, c, d, rfl⟩
theorem lst2k {α : Type} {l : List α} (h : l.length = 2) : ∃ a b, l = [a, b] := by
  match l, h with
  | [a, b], _ => exact ⟨a, b, rfl⟩
theorem open_stream6 {H : Type} {enc : TypeId × Value → H} {W : World} {r : Reach} {b0 : Nat} {v : Value} {d : DataW H} {p : List MemPlace} (hv : Value.okWide Try.prog W r b0 49 v) (h : DataW.Trod enc Try.prog W 0 (fun _ => true) true 49 v d p) :
    ∃ (bv tv : Value) (zb zt : List Int) (f a0 a1 : Nat), v = .agg #[bv, tv, .int .u32 (f : Int), .int .u8 (a0 : Int), .int .u8 (a1 : Int)] ∧ Rd W.heap.size W bv zb ∧ Rd W.heap.size W tv zt ∧ f ≤ 4294967295 ∧ a0 ≤ 255 ∧ a1 ≤ 255 := by
  obtain ⟨cs, rfl, hsz⟩ := okWide_struct Try.underlying49 hv
  obtain ⟨c0, c1, c2, c3, c4, rfl⟩ := arr5k (hsz.trans (by kernel_rfl))
  obtain ⟨fuel, hf⟩ := h
  obtain ⟨xs, n, _, hx, _, hlen, hfs⟩ := DataW.trod_struct Try.underlying49 hf
  obtain ⟨y0, y1, y2, y3, rfl⟩ := lst4k hlen
  have k1 : Try.prog.cellsOf 23 = 1 := by kernel_rfl
  have k3 : Try.prog.cellsOf 47 = 2 := by kernel_rfl
  have k4 : Try.prog.cellsOf 5 = 1 := by kernel_rfl
  have k5 : Try.prog.cellsOf 24 = 1 := by kernel_rfl
  have f0 := hfs 0 _ rfl
  have f1 := hfs 1 _ rfl
  have f2 := hfs 2 _ rfl
  have f3 := hfs 3 _ rfl
  simp [Value.cells, k1, k3, k5] at f0 f1 f2 f3
  obtain ⟨zb, _, hIb, _⟩ := open_bytes f0
  obtain ⟨zt, _, hIt, _⟩ := open_bytes f1
  obtain ⟨f, e2, _, w2⟩ := DataW.trod_int Try.underlying23 f2
  obtain ⟨zs, m, _, _, _, hl, hel⟩ := DataW.trod_array Try.underlying47 f3
  obtain ⟨z0, z1, rfl⟩ := lst2k hl
  have g0 := hel 0 (by omega)
  have g1 := hel 1 (by omega)
  rw [k4] at g0 g1
  simp [Value.cells] at g0 g1
  obtain ⟨x, hx0, _, wx⟩ := DataW.trod_int Try.underlying5 g0
  obtain ⟨y, hy0, _, wy⟩ := DataW.trod_int Try.underlying5 g1
  simp at e2 hx0 hy0
  subst e2 hx0 hy0
  simp [Lit.wf, IntKind.min, IntKind.max, IntKind.signed, IntKind.bits] at w2 wx wy
  obtain ⟨f, rfl⟩ : ∃ n : Nat, f = n := ⟨f.toNat, by omega⟩
  obtain ⟨x, rfl⟩ : ∃ n : Nat, x = n := ⟨x.toNat, by omega⟩
  obtain ⟨y, rfl⟩ : ∃ n : Nat, y = n := ⟨y.toNat, by omega⟩
  exact ⟨c0, c1, zb, zt, f, x, y, rfl, hIb, hIt, by omega, by omega, by omega⟩
end Go.Proofs.Ytaaanmjmgnpcgaa
