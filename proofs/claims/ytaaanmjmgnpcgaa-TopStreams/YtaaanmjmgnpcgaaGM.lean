/- The document's stream: Map, Unmap. -/
import Derived.Test.YtaaanmjmgnpcgaaGL
namespace Go.Proofs.Ytaaanmjmgnpcgaa
open Go.RowKit Go.Shelf
set_option maxRecDepth 100000
set_option linter.unusedVariables false
set_option linter.unusedSimpArgs false

def dmp (l : List Dp) (n : Int) : Nat → Int
  | 0 => n
  | k + 1 => if bhd (l[k]?.getD zDp).st n then dmp l n k else if bhd (dend (l[k]?.getD zDp)) n then ((l[k]?.getD zDp).st + dfz l k) % 4294967296 else (n + dfz l (k + 1)) % 4294967296

set_option maxHeartbeats 4000000 in
theorem rsmap_any (base b : Nat) (v : Value) (l : List Dp) (n : Int) (w : World) (hT : DS 71 base w b v l) (hnr : 0 ≤ n ∧ n ≤ 4294967295) (hl : l.length ≤ 1000) (htn : ∀ d ∈ l, d.tn ≤ 128) :
    Calls Try.prog 27 #[.pointer (some ⟨b, 0, none⟩), .int .u32 n] w fun e w' => e = .returned (.int .u32 (dmp l n l.length)) ∧ Later w w' := by
  have HT := hide hT
  have k00 := block_cell hT.2.1
  have HDF := hide (fun (k : Nat) (hk : k ≤ l.length) W (lw : Later w W) => rdiff_any base b v l k W (hT.later lw) hk hl htn)
  obtain ⟨av, cv, rfl, _, _⟩ := (ownD_rd hT.2.2).slice
  clear hT htn
  have hli : (l.length : Int) ≤ 1000 := by omega
  go_enter Try.func27, Try.ntmps27
  go_wp2_with fail
  clear k00
  go_loopw [5] (fun i wr => ∃ k : Nat, k ≤ l.length ∧ i = .int .i64 ((k : Int) - 1) ∧ dmp l n k = dmp l n l.length ∧ Later w wr) (fun i _ => (intOf i + 1).toNat)
  case atStart => exact ⟨l.length, by omega, rfl, rfl, Later.refl _⟩
  case round =>
    obtain ⟨k, hk, rfl, hd, lw⟩ := hrel
    have HD := hide hd
    clear hd
    cases k with
    | zero =>
      go_wp2_with fail
      refine bodyPost_ret (v := .int .u32 n) (by simp [results, Try.results27, go_sem]) rfl ?_
      exact ⟨by rw [← HD.out]; rfl, lw⟩
    | succ k =>
      have hkl : k < l.length := by omega
      have hkl' : (k : Int) < l.length := by omega
      have hk1 : ((k + 1 : Nat) : Int) - 1 = (k : Int) := by omega
      rw [hk1]
      clear hk1
      have hT := HT.out.later lw
      have k0 := block_cell hT.2.1
      obtain ⟨g, off, cp, e, _, _, hgn, hcs⟩ := (ownD_rd hT.2.2).cells (by omega)
      simp at e
      obtain ⟨rfl, rfl⟩ := e
      have d0 := hcs k hkl 0 (by omega)
      have d1 := hcs k hkl 1 (by omega)
      have d2 := hcs k hkl 2 (by omega)
      have hz : dmp l n (k + 1) = if bhd (l[k]'hkl).st n then dmp l n k else if bhd (dend (l[k]'hkl)) n then ((l[k]'hkl).st + dfz l k) % 4294967296 else (n + dfz l (k + 1)) % 4294967296 := by
        show (if bhd (l[k]?.getD zDp).st n then dmp l n k else if bhd (dend (l[k]?.getD zDp)) n then ((l[k]?.getD zDp).st + dfz l k) % 4294967296 else (n + dfz l (k + 1)) % 4294967296) = _
        rw [List.getElem?_eq_getElem hkl]
        rfl
      have HZ := hide hz
      clear hz hcs
      generalize l[k]'hkl = r at *
      simp only [dpc, List.getElem?_cons_zero, List.getElem?_cons_succ, Nat.add_zero] at d0 d1 d2
      have la : Later wr (wr.alloc (.cells #[.int .u32 r.st, .int .i64 r.wz, .slice r.ta r.tn r.tc] 73)) := (Below.refl _ _).alloc (Nat.le_refl _) _
      have hn1 := heap_alloc_new wr (.cells #[.int .u32 r.st, .int .i64 r.wz, .slice r.ta r.tn r.tc] 73)
      have HA1 := hide (fun W => rahead_any r.st n W)
      have HEN := hide (fun W => rend_any r W)
      have HA2 := hide (fun W => rahead_any (dend r) n W)
      have hb1 : bhd r.st n = decide (0 < ahd r.st n) := rfl
      have hb2 : bhd (dend r) n = decide (0 < ahd (dend r) n) := rfl
      rw [hb1, hb2] at HZ
      clear hb1 hb2
      generalize ahd r.st n = x1 at *
      generalize ahd (dend r) n = x2 at *
      unfold dpc at HEN
      generalize dend r = er at *
      go_upto_region 7 with fail
      generalize wr.alloc _ = w1 at *
      have l1 : Later w w1 := lw.trans la
      have K1 := block_cell hn1
      generalize wr.heap.size = pb at *
      clear k0 d0 d1 d2 la
      go_wp2_with fail
      refine (HA1.out w1).mono ?_
      rintro e w2 ⟨rfl, rfl⟩
      by_cases hx1 : 0 < x1
      · have X1 : Hid (decide (0 < x1) = true) := decide_eq_true hx1
        go_wp2_with fail
        go_roundw
        case rel => exact ⟨k, by omega, rfl, by rw [← HD.out, HZ.out, X1.out]; rfl, l1⟩
        case measure => first | (simp [intOf]; done) | (simp [intOf]; omega)
      · have X1 : Hid (decide (0 < x1) = false) := decide_eq_false hx1
        go_wp2_with fail
        refine (HEN.out w2).mono ?_
        rintro e w3 ⟨rfl, l3⟩
        have L3 := l1.trans l3
        have K3 := block_cell (later_keep l3 hn1)
        clear K1
        go_wp2_with fail
        refine (HA2.out w3).mono ?_
        rintro e w4 ⟨rfl, rfl⟩
        by_cases hx2 : 0 < x2
        · have lz : ∀ n, Later w4 (w4.drewN n) := fun n => below_draw (Later.refl _) _
          have X2 : Hid (decide (0 < x2) = true) := decide_eq_true hx2
          have HD0 := hide (fun W (lw : Later w W) => HDF.out k (by omega) W lw)
          have hfr := dfz_rng l k
          generalize dfz l k = q at *
          go_upto_region 9 with fail
          clear lz K3
          have hn3 := later_keep l3 hn1
          refine anyR_begin Later.pre Later.drew 7 rfl (by kernel_rfl) ?_
          intro Wd hWd
          have ha : ∀ v1, Later Wd v1 → ∀ j, v1.cell? ⟨pb, j, none⟩ = #[Value.int .u32 r.st, .int .i64 r.wz, .slice r.ta r.tn r.tc][j]? := fun v1 hv => block_cell (later_keep (hWd.trans hv) hn3)
          refine anyR_val Later.pre 0 rfl (by kernel_rfl) (by kernel_rfl) (by kernel_rfl) (fun _ _ _ _ h => h) rfl ?_; apply Exists.intro; refine ⟨fun v1 hv1 => ?_, ?_⟩; (· (go_simp; rfl)); simp only [Act.put, List.setIfInBounds_toArray, List.set_cons_zero, List.set_cons_succ]
          refine anyR_val Later.pre 1 rfl (by kernel_rfl) (by kernel_rfl) (by kernel_rfl) (fun _ _ _ _ h => h) rfl ?_; apply Exists.intro; refine ⟨fun v1 hv1 => ?_, ?_⟩; (· (go_simp; rfl)); simp only [Act.put, List.setIfInBounds_toArray, List.set_cons_zero, List.set_cons_succ]
          refine anyR_val Later.pre 2 rfl (by kernel_rfl) (by kernel_rfl) (by kernel_rfl) (fun _ _ _ _ h => h) rfl ?_; apply Exists.intro; refine ⟨fun v1 hv1 => ?_, ?_⟩; (· (go_simp; rfl)); simp only [Act.put, List.setIfInBounds_toArray, List.set_cons_zero, List.set_cons_succ]
          refine anyR_val Later.pre 3 rfl (by kernel_rfl) (by kernel_rfl) (by kernel_rfl) (fun _ _ _ _ h => h) rfl ?_; apply Exists.intro; refine ⟨fun v1 hv1 => ?_, ?_⟩; (· (go_simp; rfl)); simp only [Act.put, List.setIfInBounds_toArray, List.set_cons_zero, List.set_cons_succ]
          refine anyR_oneG 4 rfl (by kernel_rfl) (by rfl) (fun V1 hV1 => ?_)
          refine wp_enter 40 #[.pointer (some ⟨b, 0, none⟩), .int .i64 (k : Int)] (by go_simp) ?_
          refine (HD0.out V1 (L3.trans (hWd.trans hV1))).mono ?_
          rintro e V2 ⟨rfl, lV2⟩
          refine ⟨lV2, ?_⟩
          simp only [Act.put, List.setIfInBounds_toArray, List.set_cons_zero, List.set_cons_succ]
          clear ha
          refine anyR_val Later.pre 5 rfl (by kernel_rfl) (by kernel_rfl) (by kernel_rfl) (fun _ _ _ _ h => h) rfl ?_; apply Exists.intro; refine ⟨fun v1 hv1 => ?_, ?_⟩; (· (go_simp; rfl)); simp only [Act.put, List.setIfInBounds_toArray, List.set_cons_zero, List.set_cons_succ]
          refine anyR_val Later.pre 6 rfl (by kernel_rfl) (by kernel_rfl) (by kernel_rfl) (fun _ _ _ _ h => h) rfl ?_; apply Exists.intro; refine ⟨fun v1 hv1 => ?_, ?_⟩; (· (go_simp; rfl)); simp only [Act.put, List.setIfInBounds_toArray, List.set_cons_zero, List.set_cons_succ]
          simp only [IntKind.wrap_u32]
          refine anyR_done (by kernel_rfl) (fun VD hVD => ?_)
          go_wp2_with fail
          refine bodyPost_ret (v := .int .u32 ((r.st + q) % 4294967296)) (by simp [results, Try.results27, go_sem]) rfl ?_
          exact ⟨by rw [← HD.out, HZ.out, X1.out, X2.out]; rfl, L3.trans (hWd.trans (hV1.trans (lV2.trans hVD)))⟩
        · have X2 : Hid (decide (0 < x2) = false) := decide_eq_false hx2
          have HD1 := hide (fun W (lw : Later w W) => HDF.out (k + 1) (by omega) W lw)
          have hc1 : ((k + 1 : Nat) : Int) = (k : Int) + 1 := by omega
          rw [hc1] at HD1
          clear hc1
          have hfr := dfz_rng l (k + 1)
          generalize dfz l (k + 1) = q at *
          go_wp2_with fail
          refine (HD1.out w4 L3).mono ?_
          rintro e w5 ⟨rfl, l5⟩
          go_wp2_with fail
          refine bodyPost_ret (v := .int .u32 ((n + q) % 4294967296)) (by simp [results, Try.results27, go_sem]) rfl ?_
          exact ⟨by rw [← HD.out, HZ.out, X1.out, X2.out]; rfl, L3.trans l5⟩

def dum (l : List Dp) (n : Int) : Nat → Int
  | 0 => n
  | k + 1 => if bhd (((l[k]?.getD zDp).st + dfz l k) % 4294967296) n then dum l n k else if bhd ((((l[k]?.getD zDp).st + dfz l k) % 4294967296 + ((l[k]?.getD zDp).tn : Int)) % 4294967296) n then (l[k]?.getD zDp).st else (n - dfz l (k + 1)) % 4294967296

set_option maxHeartbeats 4000000 in
theorem rsunmap_any (base b : Nat) (v : Value) (l : List Dp) (n : Int) (w : World) (hT : DS 71 base w b v l) (hnr : 0 ≤ n ∧ n ≤ 4294967295) (hl : l.length ≤ 1000) (htn : ∀ d ∈ l, d.tn ≤ 128) :
    Calls Try.prog 28 #[.pointer (some ⟨b, 0, none⟩), .int .u32 n] w fun e w' => e = .returned (.int .u32 (dum l n l.length)) ∧ Later w w' := by
  have HT := hide hT
  have k00 := block_cell hT.2.1
  have HDF := hide (fun (k : Nat) (hk : k ≤ l.length) W (lw : Later w W) => rdiff_any base b v l k W (hT.later lw) hk hl htn)
  obtain ⟨av, cv, rfl, _, _⟩ := (ownD_rd hT.2.2).slice
  clear hT
  have hli : (l.length : Int) ≤ 1000 := by omega
  go_enter Try.func28, Try.ntmps28
  go_wp2_with fail
  clear k00
  go_loopw [5] (fun i wr => ∃ k : Nat, k ≤ l.length ∧ i = .int .i64 ((k : Int) - 1) ∧ dum l n k = dum l n l.length ∧ Later w wr) (fun i _ => (intOf i + 1).toNat)
  case atStart => exact ⟨l.length, by omega, rfl, rfl, Later.refl _⟩
  case round =>
    obtain ⟨k, hk, rfl, hd, lw⟩ := hrel
    have HD := hide hd
    clear hd
    cases k with
    | zero =>
      go_wp2_with fail
      refine bodyPost_ret (v := .int .u32 n) (by simp [results, Try.results28, go_sem]) rfl ?_
      exact ⟨by rw [← HD.out]; rfl, lw⟩
    | succ k =>
      have hkl : k < l.length := by omega
      have hkl' : (k : Int) < l.length := by omega
      have hk1 : ((k + 1 : Nat) : Int) - 1 = (k : Int) := by omega
      rw [hk1]
      clear hk1
      have hT := HT.out.later lw
      have k0 := block_cell hT.2.1
      obtain ⟨g, off, cp, e, _, _, hgn, hcs⟩ := (ownD_rd hT.2.2).cells (by omega)
      simp at e
      obtain ⟨rfl, rfl⟩ := e
      have d0 := hcs k hkl 0 (by omega)
      have d1 := hcs k hkl 1 (by omega)
      have d2 := hcs k hkl 2 (by omega)
      have hz : dum l n (k + 1) = if bhd (((l[k]'hkl).st + dfz l k) % 4294967296) n then dum l n k else if bhd ((((l[k]'hkl).st + dfz l k) % 4294967296 + ((l[k]'hkl).tn : Int)) % 4294967296) n then (l[k]'hkl).st else (n - dfz l (k + 1)) % 4294967296 := by
        show (if bhd (((l[k]?.getD zDp).st + dfz l k) % 4294967296) n then dum l n k else if bhd ((((l[k]?.getD zDp).st + dfz l k) % 4294967296 + ((l[k]?.getD zDp).tn : Int)) % 4294967296) n then (l[k]?.getD zDp).st else (n - dfz l (k + 1)) % 4294967296) = _
        rw [List.getElem?_eq_getElem hkl]
        rfl
      have ht1 := htn (l[k]'hkl) (List.getElem_mem _)
      have HZ := hide hz
      clear hz hcs htn
      generalize l[k]'hkl = r at *
      simp only [dpc, List.getElem?_cons_zero, List.getElem?_cons_succ, Nat.add_zero] at d0 d1 d2
      have la : Later wr (wr.alloc (.cells #[.int .u32 r.st, .int .i64 r.wz, .slice r.ta r.tn r.tc] 73)) := (Below.refl _ _).alloc (Nat.le_refl _) _
      have hn1 := heap_alloc_new wr (.cells #[.int .u32 r.st, .int .i64 r.wz, .slice r.ta r.tn r.tc] 73)
      have HD0 := hide (fun W (lw : Later w W) => HDF.out k (by omega) W lw)
      have HD1 := hide (fun W (lw : Later w W) => HDF.out (k + 1) (by omega) W lw)
      have hc1 : ((k + 1 : Nat) : Int) = (k : Int) + 1 := by omega
      rw [hc1] at HD1
      clear hc1
      have hfr := dfz_rng l k
      have hfr1 := dfz_rng l (k + 1)
      generalize dfz l (k + 1) = q1 at *
      generalize dfz l k = q at *
      clear HDF
      go_upto_region 7 with fail
      generalize wr.alloc _ = w1 at *
      have l1 : Later w w1 := lw.trans la
      generalize wr.heap.size = pb at *
      clear k0 d0 d1 d2 la
      refine anyR_begin Later.pre Later.drew 7 rfl (by kernel_rfl) ?_
      intro Wd hWd
      have ha : ∀ v1, Later Wd v1 → ∀ j, v1.cell? ⟨pb, j, none⟩ = #[Value.int .u32 r.st, .int .i64 r.wz, .slice r.ta r.tn r.tc][j]? := fun v1 hv => block_cell (later_keep (hWd.trans hv) hn1)
      refine anyR_val Later.pre 0 rfl (by kernel_rfl) (by kernel_rfl) (by kernel_rfl) (fun _ _ _ _ h => h) rfl ?_; apply Exists.intro; refine ⟨fun v1 hv1 => ?_, ?_⟩; (· (go_simp; rfl)); simp only [Act.put, List.setIfInBounds_toArray, List.set_cons_zero, List.set_cons_succ]
      refine anyR_val Later.pre 1 rfl (by kernel_rfl) (by kernel_rfl) (by kernel_rfl) (fun _ _ _ _ h => h) rfl ?_; apply Exists.intro; refine ⟨fun v1 hv1 => ?_, ?_⟩; (· (go_simp; rfl)); simp only [Act.put, List.setIfInBounds_toArray, List.set_cons_zero, List.set_cons_succ]
      refine anyR_val Later.pre 2 rfl (by kernel_rfl) (by kernel_rfl) (by kernel_rfl) (fun _ _ _ _ h => h) rfl ?_; apply Exists.intro; refine ⟨fun v1 hv1 => ?_, ?_⟩; (· (go_simp; rfl)); simp only [Act.put, List.setIfInBounds_toArray, List.set_cons_zero, List.set_cons_succ]
      refine anyR_val Later.pre 3 rfl (by kernel_rfl) (by kernel_rfl) (by kernel_rfl) (fun _ _ _ _ h => h) rfl ?_; apply Exists.intro; refine ⟨fun v1 hv1 => ?_, ?_⟩; (· (go_simp; rfl)); simp only [Act.put, List.setIfInBounds_toArray, List.set_cons_zero, List.set_cons_succ]
      refine anyR_oneG 4 rfl (by kernel_rfl) (by rfl) (fun V1 hV1 => ?_)
      refine wp_enter 40 #[.pointer (some ⟨b, 0, none⟩), .int .i64 (k : Int)] (by go_simp) ?_
      refine (HD0.out V1 (l1.trans (hWd.trans hV1))).mono ?_
      rintro e V2 ⟨rfl, lV2⟩
      refine ⟨lV2, ?_⟩
      simp only [Act.put, List.setIfInBounds_toArray, List.set_cons_zero, List.set_cons_succ]
      clear ha
      refine anyR_val Later.pre 5 rfl (by kernel_rfl) (by kernel_rfl) (by kernel_rfl) (fun _ _ _ _ h => h) rfl ?_; apply Exists.intro; refine ⟨fun v1 hv1 => ?_, ?_⟩; (· (go_simp; rfl)); simp only [Act.put, List.setIfInBounds_toArray, List.set_cons_zero, List.set_cons_succ]
      refine anyR_val Later.pre 6 rfl (by kernel_rfl) (by kernel_rfl) (by kernel_rfl) (fun _ _ _ _ h => h) rfl ?_; apply Exists.intro; refine ⟨fun v1 hv1 => ?_, ?_⟩; (· (go_simp; rfl)); simp only [Act.put, List.setIfInBounds_toArray, List.set_cons_zero, List.set_cons_succ]
      simp only [IntKind.wrap_u32]
      refine anyR_done (by kernel_rfl) (fun w2 hw2 => ?_)
      have l12 : Later w1 w2 := hWd.trans (hV1.trans (lV2.trans hw2))
      have L2 := l1.trans l12
      have K2 := block_cell (later_keep l12 hn1)
      clear HD0 hWd hV1 lV2 hw2
      have HA1 := hide (fun W => rahead_any ((r.st + q) % 4294967296) n W)
      have HA2 := hide (fun W => rahead_any (((r.st + q) % 4294967296 + (r.tn : Int)) % 4294967296) n W)
      have hb1 : bhd ((r.st + q) % 4294967296) n = decide (0 < ahd ((r.st + q) % 4294967296) n) := rfl
      have hb2 : bhd (((r.st + q) % 4294967296 + (r.tn : Int)) % 4294967296) n = decide (0 < ahd (((r.st + q) % 4294967296 + (r.tn : Int)) % 4294967296) n) := rfl
      rw [hb1, hb2] at HZ
      clear hb1 hb2
      generalize ahd (((r.st + q) % 4294967296 + (r.tn : Int)) % 4294967296) n = x2 at *
      have hbg : 0 ≤ (r.st + q) % 4294967296 ∧ (r.st + q) % 4294967296 ≤ 4294967295 := by omega
      generalize (r.st + q) % 4294967296 = bg at *
      generalize ahd bg n = x1 at *
      go_wp2_with fail
      refine (HA1.out w2).mono ?_
      rintro e w3 ⟨rfl, rfl⟩
      by_cases hx1 : 0 < x1
      · have X1 : Hid (decide (0 < x1) = true) := decide_eq_true hx1
        go_wp2_with fail
        go_roundw
        case rel => exact ⟨k, by omega, rfl, by rw [← HD.out, HZ.out, X1.out]; rfl, L2⟩
        case measure => first | (simp [intOf]; done) | (simp [intOf]; omega)
      · have X1 : Hid (decide (0 < x1) = false) := decide_eq_false hx1
        go_wp2_with fail
        refine (HA2.out w3).mono ?_
        rintro e w4 ⟨rfl, rfl⟩
        by_cases hx2 : 0 < x2
        · have X2 : Hid (decide (0 < x2) = true) := decide_eq_true hx2
          go_wp2_with fail
          refine bodyPost_ret (v := .int .u32 r.st) (by simp [results, Try.results28, go_sem]) rfl ?_
          exact ⟨by rw [← HD.out, HZ.out, X1.out, X2.out]; rfl, L2⟩
        · have X2 : Hid (decide (0 < x2) = false) := decide_eq_false hx2
          go_wp2_with fail
          refine (HD1.out w4 L2).mono ?_
          rintro e w5 ⟨rfl, l5⟩
          go_wp2_with fail
          refine bodyPost_ret (v := .int .u32 ((n - q1) % 4294967296)) (by simp [results, Try.results28, go_sem]) rfl ?_
          exact ⟨by rw [← HD.out, HZ.out, X1.out, X2.out]; rfl, L2.trans l5⟩
end Go.Proofs.Ytaaanmjmgnpcgaa
