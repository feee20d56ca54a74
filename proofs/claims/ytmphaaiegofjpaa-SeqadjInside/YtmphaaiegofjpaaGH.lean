/- The walk of SeqadjInside. -/
import Derived.Test.YtmphaaiegofjpaaGG
import Derived.Test.YtmphaaiegofjpaaRh
namespace Go.Proofs.Ytmphaaiegofjpaa
open Go.RowKit Go.Shelf
set_option maxRecDepth 100000
set_option linter.unusedVariables false
set_option linter.unusedSimpArgs false

section
variable {P : Program} {l : List Oper} {Q : Exit → Act → World → Prop} {fuel : Nat} {listed : Array Bool} {a : Act} {w : World} {R : World → World → Prop}
theorem anyR_oneG (i : Nat) {oi : Oper} (hi : nthOp l i = some oi) (hr : Region.ready .any l.toArray listed = [i]) (hg : Region.wanted oi (yielded l.toArray a.tmps) = true)
    (h1 : ∀ w', R w w' → oi.wp P a w' (fun a' w'' => R w' w'' ∧ wpAnyR P .any l.toArray Q R fuel (listed.setIfInBounds i true) a' w'') Q) :
    wpAnyR P .any l.toArray Q R (fuel + 1) listed a w := by
  have hi' : l.toArray[i]? = some oi := by rw [← hi, nthOp_eq]; simp
  refine ⟨fun h0 => (by rw [hr] at h0; cases h0), fun k hk w' hw' => ?_⟩
  rw [hr] at hk
  unfold wpOp
  obtain rfl : k = i := by simpa using hk
  rw [hi']; simp only [hg, if_true]; exact .inl (h1 w' hw')
end

theorem ahd_is {x y d : Int} (h : (x - y - d) % 4294967296 = 0) (h1 : -2147483648 ≤ d) (h2 : d < 2147483648) : ahd x y = d := by
  unfold ahd
  split <;> omega
theorem bhd_t {x y : Int} (d : Int) (h : (x - y - d) % 4294967296 = 0) (h1 : 0 < d) (h2 : d < 2147483648) : bhd x y = true := by unfold bhd; rw [ahd_is h (by omega) h2]; simpa using h1
theorem bhd_f {x y : Int} (d : Int) (h : (x - y - d) % 4294967296 = 0) (h1 : -2147483648 ≤ d) (h2 : d ≤ 0) : bhd x y = false := by unfold bhd; rw [ahd_is h h1 (by omega)]; simp; omega
/-- The one part. -/
def np1 (s was : Int) (tl : Nat) (ta : Option Addr) (tc : Nat) : Pa := ⟨s, (s + was) % 4294967296, s, (s + (tl : Int)) % 4294967296, ta, tl, tc⟩
theorem np_np1 (s was : Int) (tl : Nat) (ta : Option Addr) (tc : Nat) (h : 0 ≤ s ∧ s ≤ 4294967295) : npP [] s was tl ta tc = np1 s was tl ta tc := by
  unfold npP np1 shf
  simp
  omega
theorem in1 (s was k : Int) (tl : Nat) (ta : Option Addr) (tc : Nat) (hs : 0 ≤ s ∧ s ≤ 4294967295) (hw : 1 ≤ was ∧ was ≤ 128) (ht : 1 ≤ (tl : Int) ∧ (tl : Int) ≤ 128) (hk : 0 ≤ k ∧ k < was) : mapS [np1 s was tl ta tc] ((s + k) % 4294967296) = s := by
  unfold mapS np1
  simp only [List.reverse_cons, List.reverse_nil, List.nil_append, acr]
  rw [bhd_f (-k) (by omega) (by omega) (by omega), bhd_t (was - k) (by omega) (by omega) (by omega)]
  simp
theorem in2 (s was k : Int) (tl : Nat) (ta : Option Addr) (tc : Nat) (hs : 0 ≤ s ∧ s ≤ 4294967295) (hw : 1 ≤ was ∧ was ≤ 128) (ht : 1 ≤ (tl : Int) ∧ (tl : Int) ≤ 128) (hk : 0 ≤ k ∧ k < (tl : Int)) : unmS [np1 s was tl ta tc] ((s + k) % 4294967296) = s := by
  unfold unmS np1
  simp only [List.reverse_cons, List.reverse_nil, List.nil_append, acr]
  rw [bhd_f (-k) (by omega) (by omega) (by omega), bhd_t ((tl : Int) - k) (by omega) (by omega) (by omega)]
  simp
theorem in3 (s was : Int) (tl : Nat) (ta : Option Addr) (tc : Nat) (hs : 0 ≤ s ∧ s ≤ 4294967295) (hw : 1 ≤ was ∧ was ≤ 128) (ht : 1 ≤ (tl : Int) ∧ (tl : Int) ≤ 128) : mapS [np1 s was tl ta tc] ((s + was) % 4294967296) = (s + (tl : Int)) % 4294967296 := by
  unfold mapS np1
  simp only [List.reverse_cons, List.reverse_nil, List.nil_append, acr]
  rw [bhd_f (-was) (by omega) (by omega) (by omega), bhd_f 0 (by omega) (by omega) (by omega)]
  simp
  omega
theorem in4 (s was : Int) (tl : Nat) (ta : Option Addr) (tc : Nat) (hs : 0 ≤ s ∧ s ≤ 4294967295) : mapS [np1 s was tl ta tc] ((s - 1) % 4294967296) = (s - 1) % 4294967296 := by
  unfold mapS np1
  simp only [List.reverse_cons, List.reverse_nil, List.nil_append, acr]
  rw [bhd_t 1 (by omega) (by omega) (by omega)]
  simp
theorem in5 (s was : Int) (tl : Nat) (ta : Option Addr) (tc : Nat) (hs : 0 ≤ s ∧ s ≤ 4294967295) (hw : 1 ≤ was ∧ was ≤ 128) (ht : 1 ≤ (tl : Int) ∧ (tl : Int) ≤ 128) : mapS [np1 s was tl ta tc] ((s + 9000) % 4294967296) = (s + 9000 + ((tl : Int) - was)) % 4294967296 := by
  unfold mapS np1
  simp only [List.reverse_cons, List.reverse_nil, List.nil_append, acr]
  rw [bhd_f (-9000) (by omega) (by omega) (by omega), bhd_f (was - 9000) (by omega) (by omega) (by omega)]
  simp
  omega

set_option maxHeartbeats 8000000 in
theorem walk_SeqadjInside (w : World) (s wz : Int) (tv : Value) (zs : List Int) (hs : 0 ≤ s ∧ s ≤ 4294967295) (hw : -9223372036854775808 ≤ wz ∧ wz ≤ 9223372036854775807) (hB : Mt.By zs) (hI : Rd w.heap.size w tv zs) (k : Int) (hk : 0 ≤ k ∧ k ≤ 255) :
    Calls Try.prog 7 #[.agg #[.int .u32 s, .int .i64 wz, tv], .int .u8 k] w fun e w' => e = .returned (.bool true) ∧ Below w.heap.size w w' := by
  obtain ⟨at0, ct0, rfl, _, _⟩ := hI.slice
  have lb0 : Later w (w.alloc (.cells #[.int .u32 s, .int .i64 wz, .slice at0 zs.length ct0] 26)) := (Below.refl _ _).alloc (Nat.le_refl _) _
  have c0 := heap_alloc_new w (.cells #[.int .u32 s, .int .i64 wz, .slice at0 zs.length ct0] 26)
  clear hB
  go_enter Try.func7, Try.ntmps7
  go_upto_region 1 with fail
  generalize w.alloc _ = w0 at *
  have hb0 : w.heap.size < w0.heap.size := (Array.getElem?_eq_some_iff.1 c0).1
  go_wp2_with fail
  refine (snew_any w0).mono ?_
  rintro e w1 ⟨rfl, l1, hT1⟩
  have L1 := lb0.trans l1
  have c1 := later_keep l1 c0
  have k1 := block_cell c1
  have hI1 : Rd w1.heap.size w1 (.slice at0 zs.length ct0) zs := Rd.later hI L1
  have hbs : w0.heap.size ≤ w1.heap.size := l1.size
  generalize w0.heap.size = b at *
  by_cases ha0 : adS [] s wz zs.length = 0
  · obtain ⟨h1, h2, h3, _⟩ := adS_yes ha0
    obtain ⟨hw1, hw2⟩ := okN_rng h1
    obtain ⟨hz1, hz2⟩ := okN_rng h2
    have HAD := hide (sadd_yes b b _ [] s wz _ zs w1 hT1 hbs hs hI1 ha0)
    clear h1 h2 h3 ha0
    go_wp2_with fail
    refine HAD.out.mono ?_
    rintro e w2 ⟨rfl, ta, tc, v2, hT2, hb2, _⟩
    rw [np_np1 s wz zs.length ta tc hs, List.nil_append] at hT2
    have c2 := (hb2.block w.heap.size (Array.getElem?_eq_some_iff.1 c1).1 (fun e => by rcases e with e | e; (· omega); (· cases e))).trans c1
    have hL1 : w.heap.size ≤ w1.heap.size := L1.size
    have L2 : Below w.heap.size w w2 := Below.trans L1 (hb2.below hL1 (fun k hk e => by rcases e with e | e; (· omega); (· cases e)))
    clear k1 c1 HAD hb2 hT1 hI1 hI
    have k2 := block_cell c2
    have q1 : k.tmod wz = k % wz := Int.tmod_eq_emod_of_nonneg hk.1
    have q2 : k.tmod (zs.length : Int) = k % (zs.length : Int) := Int.tmod_eq_emod_of_nonneg hk.1
    have r1 : 0 ≤ k % wz := Int.emod_nonneg _ (by omega)
    have r2 : k % wz < wz := Int.emod_lt_of_pos _ (by omega)
    have r3 : 0 ≤ k % (zs.length : Int) := Int.emod_nonneg _ (by omega)
    have r4 : k % (zs.length : Int) < (zs.length : Int) := Int.emod_lt_of_pos _ (by omega)
    have hwn : ¬ wz = 0 := by omega
    have hzn : ¬ (zs.length : Int) = 0 := by omega
    generalize hka : k % wz = ka at *
    generalize hkb : k % (zs.length : Int) = kb at *
    clear hka hkb
    go_upto_region 4 with fail
    go_quiet (fail)
    go_upto_region 5 with fail
    go_quiet (fail)
    have lz : ∀ a1, Later w2 (w2.drewN a1) := fun a1 => below_draw (Later.refl _) _
    go_upto_region 7 with fail
    generalize hz : w2.drewN _ = w3
    have l3 : Later w2 w3 := by rw [← hz]; exact lz _
    clear hz lz k2
    have E1 : Hid ((s + wz % 4294967296) % 4294967296 = (s + wz) % 4294967296) := by show _ = _; omega
    have E2 : Hid ((s + (zs.length : Int) % 4294967296) % 4294967296 = (s + (zs.length : Int)) % 4294967296) := by show _ = _; omega
    have E3 : Hid (((s + 9000) % 4294967296 + ((zs.length : Int) - wz) % 4294967296) % 4294967296 = (s + 9000 + ((zs.length : Int) - wz)) % 4294967296) := by show _ = _; omega
    have hT3 := hT2.later l3
    have HM1 := hide (fun W (h : SL 51 b W b v2 [np1 s wz zs.length ta tc]) => smap_any b b v2 _ ((s + ka) % 4294967296) (by omega) W h (by simp))
    have HM2 := hide (fun W (h : SL 51 b W b v2 [np1 s wz zs.length ta tc]) => sunmap_any b b v2 _ ((s + kb) % 4294967296) (by omega) W h (by simp))
    have HM3 := hide (fun W (h : SL 51 b W b v2 [np1 s wz zs.length ta tc]) => smap_any b b v2 _ ((s + wz) % 4294967296) (by omega) W h (by simp))
    have HM4 := hide (fun W (h : SL 51 b W b v2 [np1 s wz zs.length ta tc]) => smap_any b b v2 _ ((s - 1) % 4294967296) (by omega) W h (by simp))
    have HM5 := hide (fun W (h : SL 51 b W b v2 [np1 s wz zs.length ta tc]) => smap_any b b v2 _ ((s + 9000) % 4294967296) (by omega) W h (by simp))
    rw [in1 s wz ka zs.length ta tc hs ⟨hw1, hw2⟩ ⟨hz1, hz2⟩ ⟨r1, r2⟩] at HM1
    rw [in2 s wz kb zs.length ta tc hs ⟨hw1, hw2⟩ ⟨hz1, hz2⟩ ⟨r3, r4⟩] at HM2
    rw [in3 s wz zs.length ta tc hs ⟨hw1, hw2⟩ ⟨hz1, hz2⟩] at HM3
    rw [in4 s wz zs.length ta tc hs] at HM4
    rw [in5 s wz zs.length ta tc hs ⟨hw1, hw2⟩ ⟨hz1, hz2⟩] at HM5
    have c3 := later_keep l3 c2
    refine anyR_begin Later.pre Later.drew 60 rfl (by kernel_rfl) ?_
    intro Wd hWd
    have cd := later_keep hWd c3
    have hTd := hT3.later hWd
    refine anyR_oneG 0 rfl (by kernel_rfl) (by rfl) (fun V1 hV1 => ?_)
    refine wp_enter 10 #[] (by go_simp) ?_
    refine (live11_any V1).mono ?_
    rintro e V2 ⟨rfl, lV2⟩
    refine ⟨lV2, ?_⟩
    simp only [Act.put, List.setIfInBounds_toArray, List.set_cons_zero, List.set_cons_succ]
    have M2 := hV1.trans lV2
    have ha : ∀ v1, Later V2 v1 → ∀ j, v1.cell? ⟨w.heap.size, j, none⟩ = #[Value.int .u32 s, .int .i64 wz, .slice at0 zs.length ct0][j]? := fun v1 hv => block_cell (later_keep (M2.trans hv) cd)
    refine anyR_val Later.pre 1 rfl (by kernel_rfl) (by kernel_rfl) (by kernel_rfl) (fun _ _ _ _ h => h) rfl ?_; apply Exists.intro; refine ⟨fun v1 hv1 => ?_, ?_⟩; (· (go_simp; rfl)); simp only [Act.put, List.setIfInBounds_toArray, List.set_cons_zero, List.set_cons_succ]
    refine anyR_valG Later.pre 2 rfl (by kernel_rfl) (by kernel_rfl) (by kernel_rfl) (fun _ _ _ _ h => h) (by rfl) ?_; apply Exists.intro; refine ⟨fun v1 hv1 => ?_, ?_⟩; (· (go_simp; rfl)); simp only [Act.put, List.setIfInBounds_toArray, List.set_cons_zero, List.set_cons_succ]
    refine anyR_valG Later.pre 3 rfl (by kernel_rfl) (by kernel_rfl) (by kernel_rfl) (fun _ _ _ _ h => h) (by rfl) ?_; apply Exists.intro; refine ⟨fun v1 hv1 => ?_, ?_⟩; (· (go_simp; rfl)); simp only [Act.put, List.setIfInBounds_toArray, List.set_cons_zero, List.set_cons_succ]
    refine anyR_valG Later.pre 5 rfl (by kernel_rfl) (by kernel_rfl) (by kernel_rfl) (fun _ _ _ _ h => h) (by rfl) ?_; apply Exists.intro; refine ⟨fun v1 hv1 => ?_, ?_⟩; (· (go_simp; rfl)); simp only [Act.put, List.setIfInBounds_toArray, List.set_cons_zero, List.set_cons_succ]
    refine anyR_valG Later.pre 6 rfl (by kernel_rfl) (by kernel_rfl) (by kernel_rfl) (fun _ _ _ _ h => h) (by rfl) ?_; apply Exists.intro; refine ⟨fun v1 hv1 => ?_, ?_⟩; (· (go_simp; rfl)); simp only [Act.put, List.setIfInBounds_toArray, List.set_cons_zero, List.set_cons_succ]
    try simp only [IntKind.wrap_u32, E1.out, E2.out, E3.out]
    refine anyR_oneG 4 rfl (by kernel_rfl) (by rfl) (fun V3 hV3 => ?_)
    refine wp_enter 19 #[.pointer (some ⟨b, 0, none⟩), .int .u32 ((s + ka) % 4294967296)] (by go_simp) ?_
    refine (HM1.out V3 (hTd.later (M2.trans hV3))).mono ?_
    rintro e V4 ⟨rfl, lV4⟩
    refine ⟨lV4, ?_⟩
    simp only [Act.put, List.setIfInBounds_toArray, List.set_cons_zero, List.set_cons_succ]
    have M4 := M2.trans (hV3.trans lV4)
    clear ha
    have ha : ∀ v1, Later V4 v1 → ∀ j, v1.cell? ⟨w.heap.size, j, none⟩ = #[Value.int .u32 s, .int .i64 wz, .slice at0 zs.length ct0][j]? := fun v1 hv => block_cell (later_keep (M4.trans hv) cd)
    refine anyR_valG Later.pre 7 rfl (by kernel_rfl) (by kernel_rfl) (by kernel_rfl) (fun _ _ _ _ h => h) (by rfl) ?_; apply Exists.intro; refine ⟨fun v1 hv1 => ?_, ?_⟩; (· (go_simp; rfl)); simp only [Act.put, List.setIfInBounds_toArray, List.set_cons_zero, List.set_cons_succ]
    refine anyR_val Later.pre 8 rfl (by kernel_rfl) (by kernel_rfl) (by kernel_rfl) (fun _ _ _ _ h => h) rfl ?_; apply Exists.intro; refine ⟨fun v1 hv1 => ?_, ?_⟩; (· (go_simp; rfl)); simp only [Act.put, List.setIfInBounds_toArray, List.set_cons_zero, List.set_cons_succ]
    refine anyR_val Later.pre 9 rfl (by kernel_rfl) (by kernel_rfl) (by kernel_rfl) (fun _ _ _ _ h => h) rfl ?_; apply Exists.intro; refine ⟨fun v1 hv1 => ?_, ?_⟩; (· (go_simp; rfl)); simp only [Act.put, List.setIfInBounds_toArray, List.set_cons_zero, List.set_cons_succ]
    refine anyR_valG Later.pre 10 rfl (by kernel_rfl) (by kernel_rfl) (by kernel_rfl) (fun _ _ _ _ h => h) (by rfl) ?_; apply Exists.intro; refine ⟨fun v1 hv1 => ?_, ?_⟩; (· (go_simp; rfl)); simp only [Act.put, List.setIfInBounds_toArray, List.set_cons_zero, List.set_cons_succ]
    refine anyR_valG Later.pre 11 rfl (by kernel_rfl) (by kernel_rfl) (by kernel_rfl) (fun _ _ _ _ h => h) (by rfl) ?_; apply Exists.intro; refine ⟨fun v1 hv1 => ?_, ?_⟩; (· (go_simp; rfl)); simp only [Act.put, List.setIfInBounds_toArray, List.set_cons_zero, List.set_cons_succ]
    refine anyR_valG Later.pre 13 rfl (by kernel_rfl) (by kernel_rfl) (by kernel_rfl) (fun _ _ _ _ h => h) (by rfl) ?_; apply Exists.intro; refine ⟨fun v1 hv1 => ?_, ?_⟩; (· (go_simp; rfl)); simp only [Act.put, List.setIfInBounds_toArray, List.set_cons_zero, List.set_cons_succ]
    refine anyR_valG Later.pre 14 rfl (by kernel_rfl) (by kernel_rfl) (by kernel_rfl) (fun _ _ _ _ h => h) (by rfl) ?_; apply Exists.intro; refine ⟨fun v1 hv1 => ?_, ?_⟩; (· (go_simp; rfl)); simp only [Act.put, List.setIfInBounds_toArray, List.set_cons_zero, List.set_cons_succ]
    try simp only [IntKind.wrap_u32, E1.out, E2.out, E3.out]
    refine anyR_oneG 12 rfl (by kernel_rfl) (by rfl) (fun V5 hV5 => ?_)
    refine wp_enter 18 #[.pointer (some ⟨b, 0, none⟩), .int .u32 ((s + kb) % 4294967296)] (by go_simp) ?_
    refine (HM2.out V5 (hTd.later (M4.trans hV5))).mono ?_
    rintro e V6 ⟨rfl, lV6⟩
    refine ⟨lV6, ?_⟩
    simp only [Act.put, List.setIfInBounds_toArray, List.set_cons_zero, List.set_cons_succ]
    have M6 := M4.trans (hV5.trans lV6)
    clear ha
    have ha : ∀ v1, Later V6 v1 → ∀ j, v1.cell? ⟨w.heap.size, j, none⟩ = #[Value.int .u32 s, .int .i64 wz, .slice at0 zs.length ct0][j]? := fun v1 hv => block_cell (later_keep (M6.trans hv) cd)
    refine anyR_valG Later.pre 15 rfl (by kernel_rfl) (by kernel_rfl) (by kernel_rfl) (fun _ _ _ _ h => h) (by rfl) ?_; apply Exists.intro; refine ⟨fun v1 hv1 => ?_, ?_⟩; (· (go_simp; rfl)); simp only [Act.put, List.setIfInBounds_toArray, List.set_cons_zero, List.set_cons_succ]
    refine anyR_val Later.pre 16 rfl (by kernel_rfl) (by kernel_rfl) (by kernel_rfl) (fun _ _ _ _ h => h) rfl ?_; apply Exists.intro; refine ⟨fun v1 hv1 => ?_, ?_⟩; (· (go_simp; rfl)); simp only [Act.put, List.setIfInBounds_toArray, List.set_cons_zero, List.set_cons_succ]
    refine anyR_val Later.pre 17 rfl (by kernel_rfl) (by kernel_rfl) (by kernel_rfl) (fun _ _ _ _ h => h) rfl ?_; apply Exists.intro; refine ⟨fun v1 hv1 => ?_, ?_⟩; (· (go_simp; rfl)); simp only [Act.put, List.setIfInBounds_toArray, List.set_cons_zero, List.set_cons_succ]
    refine anyR_valG Later.pre 18 rfl (by kernel_rfl) (by kernel_rfl) (by kernel_rfl) (fun _ _ _ _ h => h) (by rfl) ?_; apply Exists.intro; refine ⟨fun v1 hv1 => ?_, ?_⟩; (· (go_simp; rfl)); simp only [Act.put, List.setIfInBounds_toArray, List.set_cons_zero, List.set_cons_succ]
    refine anyR_valG Later.pre 19 rfl (by kernel_rfl) (by kernel_rfl) (by kernel_rfl) (fun _ _ _ _ h => h) (by rfl) ?_; apply Exists.intro; refine ⟨fun v1 hv1 => ?_, ?_⟩; (· (go_simp; rfl)); simp only [Act.put, List.setIfInBounds_toArray, List.set_cons_zero, List.set_cons_succ]
    refine anyR_valG Later.pre 20 rfl (by kernel_rfl) (by kernel_rfl) (by kernel_rfl) (fun _ _ _ _ h => h) (by rfl) ?_; apply Exists.intro; refine ⟨fun v1 hv1 => ?_, ?_⟩; (· (go_simp; rfl)); simp only [Act.put, List.setIfInBounds_toArray, List.set_cons_zero, List.set_cons_succ]
    refine anyR_valG Later.pre 21 rfl (by kernel_rfl) (by kernel_rfl) (by kernel_rfl) (fun _ _ _ _ h => h) (by rfl) ?_; apply Exists.intro; refine ⟨fun v1 hv1 => ?_, ?_⟩; (· (go_simp; rfl)); simp only [Act.put, List.setIfInBounds_toArray, List.set_cons_zero, List.set_cons_succ]
    refine anyR_valG Later.pre 22 rfl (by kernel_rfl) (by kernel_rfl) (by kernel_rfl) (fun _ _ _ _ h => h) (by rfl) ?_; apply Exists.intro; refine ⟨fun v1 hv1 => ?_, ?_⟩; (· (go_simp; rfl)); simp only [Act.put, List.setIfInBounds_toArray, List.set_cons_zero, List.set_cons_succ]
    refine anyR_valG Later.pre 23 rfl (by kernel_rfl) (by kernel_rfl) (by kernel_rfl) (fun _ _ _ _ h => h) (by rfl) ?_; apply Exists.intro; refine ⟨fun v1 hv1 => ?_, ?_⟩; (· (go_simp; rfl)); simp only [Act.put, List.setIfInBounds_toArray, List.set_cons_zero, List.set_cons_succ]
    refine anyR_valG Later.pre 24 rfl (by kernel_rfl) (by kernel_rfl) (by kernel_rfl) (fun _ _ _ _ h => h) (by rfl) ?_; apply Exists.intro; refine ⟨fun v1 hv1 => ?_, ?_⟩; (· (go_simp; rfl)); simp only [Act.put, List.setIfInBounds_toArray, List.set_cons_zero, List.set_cons_succ]
    refine anyR_valG Later.pre 26 rfl (by kernel_rfl) (by kernel_rfl) (by kernel_rfl) (fun _ _ _ _ h => h) (by rfl) ?_; apply Exists.intro; refine ⟨fun v1 hv1 => ?_, ?_⟩; (· (go_simp; rfl)); simp only [Act.put, List.setIfInBounds_toArray, List.set_cons_zero, List.set_cons_succ]
    refine anyR_valG Later.pre 27 rfl (by kernel_rfl) (by kernel_rfl) (by kernel_rfl) (fun _ _ _ _ h => h) (by rfl) ?_; apply Exists.intro; refine ⟨fun v1 hv1 => ?_, ?_⟩; (· (go_simp; rfl)); simp only [Act.put, List.setIfInBounds_toArray, List.set_cons_zero, List.set_cons_succ]
    refine anyR_valG Later.pre 28 rfl (by kernel_rfl) (by kernel_rfl) (by kernel_rfl) (fun _ _ _ _ h => h) (by rfl) ?_; apply Exists.intro; refine ⟨fun v1 hv1 => ?_, ?_⟩; (· (go_simp; rfl)); simp only [Act.put, List.setIfInBounds_toArray, List.set_cons_zero, List.set_cons_succ]
    refine anyR_valG Later.pre 29 rfl (by kernel_rfl) (by kernel_rfl) (by kernel_rfl) (fun _ _ _ _ h => h) (by rfl) ?_; apply Exists.intro; refine ⟨fun v1 hv1 => ?_, ?_⟩; (· (go_simp; rfl)); simp only [Act.put, List.setIfInBounds_toArray, List.set_cons_zero, List.set_cons_succ]
    refine anyR_valG Later.pre 30 rfl (by kernel_rfl) (by kernel_rfl) (by kernel_rfl) (fun _ _ _ _ h => h) (by rfl) ?_; apply Exists.intro; refine ⟨fun v1 hv1 => ?_, ?_⟩; (· (go_simp; rfl)); simp only [Act.put, List.setIfInBounds_toArray, List.set_cons_zero, List.set_cons_succ]
    refine anyR_valG Later.pre 31 rfl (by kernel_rfl) (by kernel_rfl) (by kernel_rfl) (fun _ _ _ _ h => h) (by rfl) ?_; apply Exists.intro; refine ⟨fun v1 hv1 => ?_, ?_⟩; (· (go_simp; rfl)); simp only [Act.put, List.setIfInBounds_toArray, List.set_cons_zero, List.set_cons_succ]
    refine anyR_valG Later.pre 32 rfl (by kernel_rfl) (by kernel_rfl) (by kernel_rfl) (fun _ _ _ _ h => h) (by rfl) ?_; apply Exists.intro; refine ⟨fun v1 hv1 => ?_, ?_⟩; (· (go_simp; rfl)); simp only [Act.put, List.setIfInBounds_toArray, List.set_cons_zero, List.set_cons_succ]
    try simp only [IntKind.wrap_u32, E1.out, E2.out, E3.out]
    refine anyR_oneG 25 rfl (by kernel_rfl) (by rfl) (fun V7 hV7 => ?_)
    refine wp_enter 19 #[.pointer (some ⟨b, 0, none⟩), .int .u32 ((s + wz) % 4294967296)] (by go_simp) ?_
    refine (HM3.out V7 (hTd.later (M6.trans hV7))).mono ?_
    rintro e V8 ⟨rfl, lV8⟩
    refine ⟨lV8, ?_⟩
    simp only [Act.put, List.setIfInBounds_toArray, List.set_cons_zero, List.set_cons_succ]
    have M8 := M6.trans (hV7.trans lV8)
    clear ha
    have ha : ∀ v1, Later V8 v1 → ∀ j, v1.cell? ⟨w.heap.size, j, none⟩ = #[Value.int .u32 s, .int .i64 wz, .slice at0 zs.length ct0][j]? := fun v1 hv => block_cell (later_keep (M8.trans hv) cd)
    refine anyR_valG Later.pre 33 rfl (by kernel_rfl) (by kernel_rfl) (by kernel_rfl) (fun _ _ _ _ h => h) (by rfl) ?_; apply Exists.intro; refine ⟨fun v1 hv1 => ?_, ?_⟩; (· (go_simp; rfl)); simp only [Act.put, List.setIfInBounds_toArray, List.set_cons_zero, List.set_cons_succ]
    refine anyR_val Later.pre 34 rfl (by kernel_rfl) (by kernel_rfl) (by kernel_rfl) (fun _ _ _ _ h => h) rfl ?_; apply Exists.intro; refine ⟨fun v1 hv1 => ?_, ?_⟩; (· (go_simp; rfl)); simp only [Act.put, List.setIfInBounds_toArray, List.set_cons_zero, List.set_cons_succ]
    refine anyR_val Later.pre 35 rfl (by kernel_rfl) (by kernel_rfl) (by kernel_rfl) (fun _ _ _ _ h => h) rfl ?_; apply Exists.intro; refine ⟨fun v1 hv1 => ?_, ?_⟩; (· (go_simp; rfl)); simp only [Act.put, List.setIfInBounds_toArray, List.set_cons_zero, List.set_cons_succ]
    refine anyR_valG Later.pre 36 rfl (by kernel_rfl) (by kernel_rfl) (by kernel_rfl) (fun _ _ _ _ h => h) (by rfl) ?_; apply Exists.intro; refine ⟨fun v1 hv1 => ?_, ?_⟩; (· (go_simp; rfl)); simp only [Act.put, List.setIfInBounds_toArray, List.set_cons_zero, List.set_cons_succ]
    refine anyR_valG Later.pre 37 rfl (by kernel_rfl) (by kernel_rfl) (by kernel_rfl) (fun _ _ _ _ h => h) (by rfl) ?_; apply Exists.intro; refine ⟨fun v1 hv1 => ?_, ?_⟩; (· (go_simp; rfl)); simp only [Act.put, List.setIfInBounds_toArray, List.set_cons_zero, List.set_cons_succ]
    refine anyR_valG Later.pre 38 rfl (by kernel_rfl) (by kernel_rfl) (by kernel_rfl) (fun _ _ _ _ h => h) (by rfl) ?_; apply Exists.intro; refine ⟨fun v1 hv1 => ?_, ?_⟩; (· (go_simp; rfl)); simp only [Act.put, List.setIfInBounds_toArray, List.set_cons_zero, List.set_cons_succ]
    refine anyR_valG Later.pre 39 rfl (by kernel_rfl) (by kernel_rfl) (by kernel_rfl) (fun _ _ _ _ h => h) (by rfl) ?_; apply Exists.intro; refine ⟨fun v1 hv1 => ?_, ?_⟩; (· (go_simp; rfl)); simp only [Act.put, List.setIfInBounds_toArray, List.set_cons_zero, List.set_cons_succ]
    refine anyR_valG Later.pre 41 rfl (by kernel_rfl) (by kernel_rfl) (by kernel_rfl) (fun _ _ _ _ h => h) (by rfl) ?_; apply Exists.intro; refine ⟨fun v1 hv1 => ?_, ?_⟩; (· (go_simp; rfl)); simp only [Act.put, List.setIfInBounds_toArray, List.set_cons_zero, List.set_cons_succ]
    refine anyR_valG Later.pre 42 rfl (by kernel_rfl) (by kernel_rfl) (by kernel_rfl) (fun _ _ _ _ h => h) (by rfl) ?_; apply Exists.intro; refine ⟨fun v1 hv1 => ?_, ?_⟩; (· (go_simp; rfl)); simp only [Act.put, List.setIfInBounds_toArray, List.set_cons_zero, List.set_cons_succ]
    refine anyR_valG Later.pre 43 rfl (by kernel_rfl) (by kernel_rfl) (by kernel_rfl) (fun _ _ _ _ h => h) (by rfl) ?_; apply Exists.intro; refine ⟨fun v1 hv1 => ?_, ?_⟩; (· (go_simp; rfl)); simp only [Act.put, List.setIfInBounds_toArray, List.set_cons_zero, List.set_cons_succ]
    try simp only [IntKind.wrap_u32, E1.out, E2.out, E3.out]
    refine anyR_oneG 40 rfl (by kernel_rfl) (by rfl) (fun V9 hV9 => ?_)
    refine wp_enter 19 #[.pointer (some ⟨b, 0, none⟩), .int .u32 ((s - 1) % 4294967296)] (by go_simp) ?_
    refine (HM4.out V9 (hTd.later (M8.trans hV9))).mono ?_
    rintro e VA ⟨rfl, lVA⟩
    refine ⟨lVA, ?_⟩
    simp only [Act.put, List.setIfInBounds_toArray, List.set_cons_zero, List.set_cons_succ]
    have MA := M8.trans (hV9.trans lVA)
    clear ha
    have ha : ∀ v1, Later VA v1 → ∀ j, v1.cell? ⟨w.heap.size, j, none⟩ = #[Value.int .u32 s, .int .i64 wz, .slice at0 zs.length ct0][j]? := fun v1 hv => block_cell (later_keep (MA.trans hv) cd)
    refine anyR_valG Later.pre 44 rfl (by kernel_rfl) (by kernel_rfl) (by kernel_rfl) (fun _ _ _ _ h => h) (by rfl) ?_; apply Exists.intro; refine ⟨fun v1 hv1 => ?_, ?_⟩; (· (go_simp; rfl)); simp only [Act.put, List.setIfInBounds_toArray, List.set_cons_zero, List.set_cons_succ]
    refine anyR_val Later.pre 45 rfl (by kernel_rfl) (by kernel_rfl) (by kernel_rfl) (fun _ _ _ _ h => h) rfl ?_; apply Exists.intro; refine ⟨fun v1 hv1 => ?_, ?_⟩; (· (go_simp; rfl)); simp only [Act.put, List.setIfInBounds_toArray, List.set_cons_zero, List.set_cons_succ]
    refine anyR_val Later.pre 46 rfl (by kernel_rfl) (by kernel_rfl) (by kernel_rfl) (fun _ _ _ _ h => h) rfl ?_; apply Exists.intro; refine ⟨fun v1 hv1 => ?_, ?_⟩; (· (go_simp; rfl)); simp only [Act.put, List.setIfInBounds_toArray, List.set_cons_zero, List.set_cons_succ]
    refine anyR_valG Later.pre 47 rfl (by kernel_rfl) (by kernel_rfl) (by kernel_rfl) (fun _ _ _ _ h => h) (by rfl) ?_; apply Exists.intro; refine ⟨fun v1 hv1 => ?_, ?_⟩; (· (go_simp; rfl)); simp only [Act.put, List.setIfInBounds_toArray, List.set_cons_zero, List.set_cons_succ]
    refine anyR_valG Later.pre 48 rfl (by kernel_rfl) (by kernel_rfl) (by kernel_rfl) (fun _ _ _ _ h => h) (by rfl) ?_; apply Exists.intro; refine ⟨fun v1 hv1 => ?_, ?_⟩; (· (go_simp; rfl)); simp only [Act.put, List.setIfInBounds_toArray, List.set_cons_zero, List.set_cons_succ]
    refine anyR_valG Later.pre 49 rfl (by kernel_rfl) (by kernel_rfl) (by kernel_rfl) (fun _ _ _ _ h => h) (by rfl) ?_; apply Exists.intro; refine ⟨fun v1 hv1 => ?_, ?_⟩; (· (go_simp; rfl)); simp only [Act.put, List.setIfInBounds_toArray, List.set_cons_zero, List.set_cons_succ]
    refine anyR_valG Later.pre 50 rfl (by kernel_rfl) (by kernel_rfl) (by kernel_rfl) (fun _ _ _ _ h => h) (by rfl) ?_; apply Exists.intro; refine ⟨fun v1 hv1 => ?_, ?_⟩; (· (go_simp; rfl)); simp only [Act.put, List.setIfInBounds_toArray, List.set_cons_zero, List.set_cons_succ]
    refine anyR_valG Later.pre 52 rfl (by kernel_rfl) (by kernel_rfl) (by kernel_rfl) (fun _ _ _ _ h => h) (by rfl) ?_; apply Exists.intro; refine ⟨fun v1 hv1 => ?_, ?_⟩; (· (go_simp; rfl)); simp only [Act.put, List.setIfInBounds_toArray, List.set_cons_zero, List.set_cons_succ]
    refine anyR_valG Later.pre 53 rfl (by kernel_rfl) (by kernel_rfl) (by kernel_rfl) (fun _ _ _ _ h => h) (by rfl) ?_; apply Exists.intro; refine ⟨fun v1 hv1 => ?_, ?_⟩; (· (go_simp; rfl)); simp only [Act.put, List.setIfInBounds_toArray, List.set_cons_zero, List.set_cons_succ]
    refine anyR_valG Later.pre 54 rfl (by kernel_rfl) (by kernel_rfl) (by kernel_rfl) (fun _ _ _ _ h => h) (by rfl) ?_; apply Exists.intro; refine ⟨fun v1 hv1 => ?_, ?_⟩; (· (go_simp; rfl)); simp only [Act.put, List.setIfInBounds_toArray, List.set_cons_zero, List.set_cons_succ]
    refine anyR_valG Later.pre 55 rfl (by kernel_rfl) (by kernel_rfl) (by kernel_rfl) (fun _ _ _ _ h => h) (by rfl) ?_; apply Exists.intro; refine ⟨fun v1 hv1 => ?_, ?_⟩; (· (go_simp; rfl)); simp only [Act.put, List.setIfInBounds_toArray, List.set_cons_zero, List.set_cons_succ]
    refine anyR_valG Later.pre 56 rfl (by kernel_rfl) (by kernel_rfl) (by kernel_rfl) (fun _ _ _ _ h => h) (by rfl) ?_; apply Exists.intro; refine ⟨fun v1 hv1 => ?_, ?_⟩; (· (go_simp; rfl)); simp only [Act.put, List.setIfInBounds_toArray, List.set_cons_zero, List.set_cons_succ]
    try simp only [IntKind.wrap_u32, E1.out, E2.out, E3.out]
    refine anyR_oneG 51 rfl (by kernel_rfl) (by rfl) (fun VB hVB => ?_)
    refine wp_enter 19 #[.pointer (some ⟨b, 0, none⟩), .int .u32 ((s + 9000) % 4294967296)] (by go_simp) ?_
    refine (HM5.out VB (hTd.later (MA.trans hVB))).mono ?_
    rintro e VC ⟨rfl, lVC⟩
    refine ⟨lVC, ?_⟩
    simp only [Act.put, List.setIfInBounds_toArray, List.set_cons_zero, List.set_cons_succ]
    have MC := MA.trans (hVB.trans lVC)
    clear ha
    have ha : ∀ v1, Later VC v1 → ∀ j, v1.cell? ⟨w.heap.size, j, none⟩ = #[Value.int .u32 s, .int .i64 wz, .slice at0 zs.length ct0][j]? := fun v1 hv => block_cell (later_keep (MC.trans hv) cd)
    refine anyR_valG Later.pre 57 rfl (by kernel_rfl) (by kernel_rfl) (by kernel_rfl) (fun _ _ _ _ h => h) (by rfl) ?_; apply Exists.intro; refine ⟨fun v1 hv1 => ?_, ?_⟩; (· (go_simp; rfl)); simp only [Act.put, List.setIfInBounds_toArray, List.set_cons_zero, List.set_cons_succ]
    refine anyR_val Later.pre 58 rfl (by kernel_rfl) (by kernel_rfl) (by kernel_rfl) (fun _ _ _ _ h => h) rfl ?_; apply Exists.intro; refine ⟨fun v1 hv1 => ?_, ?_⟩; (· (go_simp; rfl)); simp only [Act.put, List.setIfInBounds_toArray, List.set_cons_zero, List.set_cons_succ]
    refine anyR_val Later.pre 59 rfl (by kernel_rfl) (by kernel_rfl) (by kernel_rfl) (fun _ _ _ _ h => h) rfl ?_; apply Exists.intro; refine ⟨fun v1 hv1 => ?_, ?_⟩; (· (go_simp; rfl)); simp only [Act.put, List.setIfInBounds_toArray, List.set_cons_zero, List.set_cons_succ]
    refine anyR_done (by kernel_rfl) (fun VD hVD => ?_)
    clear ha
    go_wp2_with fail
    go_ret
    exact ⟨by first | rfl | simp, L2.trans (Below.mono (l3.trans (hWd.trans (MC.trans hVD))) L2.size)⟩
  · have HNO := hide (sadd_no b b _ [] s wz _ zs w1 hT1 (by simp) hI1 ha0)
    have ha1 : ¬ adS [] s wz zs.length = 0 := ha0
    generalize adS [] s wz zs.length = er at *
    clear ha0
    go_wp2_with fail
    refine HNO.out.mono ?_
    rintro e w2 ⟨rfl, rfl⟩
    clear k1
    go_upto_region 3 with fail
    refine anyR_begin Later.pre Later.drew 16 rfl (by kernel_rfl) ?_
    intro Wd hWd
    have cd := later_keep hWd c1
    have hTd := hT1.later hWd
    refine anyR_oneG 0 rfl (by kernel_rfl) (by rfl) (fun V1 hV1 => ?_)
    refine wp_enter 10 #[] (by go_simp) ?_
    refine (live11_any V1).mono ?_
    rintro e V2 ⟨rfl, lV2⟩
    refine ⟨lV2, ?_⟩
    simp only [Act.put, List.setIfInBounds_toArray, List.set_cons_zero, List.set_cons_succ]
    have M2 := hV1.trans lV2
    have ha : ∀ v1, Later V2 v1 → ∀ j, v1.cell? ⟨w.heap.size, j, none⟩ = #[Value.int .u32 s, .int .i64 wz, .slice at0 zs.length ct0][j]? := fun v1 hv => block_cell (later_keep (M2.trans hv) cd)
    refine anyR_val Later.pre 1 rfl (by kernel_rfl) (by kernel_rfl) (by kernel_rfl) (fun _ _ _ _ h => h) rfl ?_; apply Exists.intro; refine ⟨fun v1 hv1 => ?_, ?_⟩; (· (go_simp; rfl)); simp only [Act.put, List.setIfInBounds_toArray, List.set_cons_zero, List.set_cons_succ]
    refine anyR_valG Later.pre 2 rfl (by kernel_rfl) (by kernel_rfl) (by kernel_rfl) (fun _ _ _ _ h => h) (by rfl) ?_; apply Exists.intro; refine ⟨fun v1 hv1 => ?_, ?_⟩; (· (go_simp; rfl)); simp only [Act.put, List.setIfInBounds_toArray, List.set_cons_zero, List.set_cons_succ]
    refine anyR_oneG 3 rfl (by kernel_rfl) (by rfl) (fun V3 hV3 => ?_)
    refine wp_enter 15 #[.pointer (some ⟨b, 0, none⟩)] (by go_simp) ?_
    refine (slen_any b b _ [] V3 (hTd.later (M2.trans hV3))).mono ?_
    rintro e V4 ⟨rfl, rfl⟩
    refine ⟨Later.refl _, ?_⟩
    simp only [Act.put, List.setIfInBounds_toArray, List.set_cons_zero, List.set_cons_succ]
    have M4 := M2.trans hV3
    clear ha
    have ha : ∀ v1, Later V4 v1 → ∀ j, v1.cell? ⟨w.heap.size, j, none⟩ = #[Value.int .u32 s, .int .i64 wz, .slice at0 zs.length ct0][j]? := fun v1 hv => block_cell (later_keep (M4.trans hv) cd)
    refine anyR_valG Later.pre 4 rfl (by kernel_rfl) (by kernel_rfl) (by kernel_rfl) (fun _ _ _ _ h => h) (by rfl) ?_; apply Exists.intro; refine ⟨fun v1 hv1 => ?_, ?_⟩; (· (go_simp; rfl)); simp only [Act.put, List.setIfInBounds_toArray, List.set_cons_zero, List.set_cons_succ]
    refine anyR_val Later.pre 5 rfl (by kernel_rfl) (by kernel_rfl) (by kernel_rfl) (fun _ _ _ _ h => h) rfl ?_; apply Exists.intro; refine ⟨fun v1 hv1 => ?_, ?_⟩; (· (go_simp; rfl)); simp only [Act.put, List.setIfInBounds_toArray, List.set_cons_zero, List.set_cons_succ]
    refine anyR_val Later.pre 6 rfl (by kernel_rfl) (by kernel_rfl) (by kernel_rfl) (fun _ _ _ _ h => h) rfl ?_; apply Exists.intro; refine ⟨fun v1 hv1 => ?_, ?_⟩; (· (go_simp; rfl)); simp only [Act.put, List.setIfInBounds_toArray, List.set_cons_zero, List.set_cons_succ]
    refine anyR_valG Later.pre 7 rfl (by kernel_rfl) (by kernel_rfl) (by kernel_rfl) (fun _ _ _ _ h => h) (by rfl) ?_; apply Exists.intro; refine ⟨fun v1 hv1 => ?_, ?_⟩; (· (go_simp; rfl)); simp only [Act.put, List.setIfInBounds_toArray, List.set_cons_zero, List.set_cons_succ]
    refine anyR_valG Later.pre 8 rfl (by kernel_rfl) (by kernel_rfl) (by kernel_rfl) (fun _ _ _ _ h => h) (by rfl) ?_; apply Exists.intro; refine ⟨fun v1 hv1 => ?_, ?_⟩; (· (go_simp; rfl)); simp only [Act.put, List.setIfInBounds_toArray, List.set_cons_zero, List.set_cons_succ]
    refine anyR_valG Later.pre 9 rfl (by kernel_rfl) (by kernel_rfl) (by kernel_rfl) (fun _ _ _ _ h => h) (by rfl) ?_; apply Exists.intro; refine ⟨fun v1 hv1 => ?_, ?_⟩; (· (go_simp; rfl)); simp only [Act.put, List.setIfInBounds_toArray, List.set_cons_zero, List.set_cons_succ]
    refine anyR_valG Later.pre 11 rfl (by kernel_rfl) (by kernel_rfl) (by kernel_rfl) (fun _ _ _ _ h => h) (by rfl) ?_; apply Exists.intro; refine ⟨fun v1 hv1 => ?_, ?_⟩; (· (go_simp; rfl)); simp only [Act.put, List.setIfInBounds_toArray, List.set_cons_zero, List.set_cons_succ]
    refine anyR_valG Later.pre 12 rfl (by kernel_rfl) (by kernel_rfl) (by kernel_rfl) (fun _ _ _ _ h => h) (by rfl) ?_; apply Exists.intro; refine ⟨fun v1 hv1 => ?_, ?_⟩; (· (go_simp; rfl)); simp only [Act.put, List.setIfInBounds_toArray, List.set_cons_zero, List.set_cons_succ]
    refine anyR_oneG 10 rfl (by kernel_rfl) (by rfl) (fun V5 hV5 => ?_)
    refine wp_enter 19 #[.pointer (some ⟨b, 0, none⟩), .int .u32 s] (by go_simp) ?_
    refine (smap_any b b _ [] s hs V5 (hTd.later (M4.trans hV5)) (by simp)).mono ?_
    rw [(map_none s).1]
    rintro e V6 ⟨rfl, lV6⟩
    refine ⟨lV6, ?_⟩
    simp only [Act.put, List.setIfInBounds_toArray, List.set_cons_zero, List.set_cons_succ]
    have M6 := M4.trans (hV5.trans lV6)
    refine anyR_valG Later.pre 13 rfl (by kernel_rfl) (by kernel_rfl) (by kernel_rfl) (fun _ _ _ _ h => h) (by rfl) ?_; apply Exists.intro; refine ⟨fun v1 hv1 => ?_, ?_⟩; (· (go_simp; rfl)); simp only [Act.put, List.setIfInBounds_toArray, List.set_cons_zero, List.set_cons_succ]
    refine anyR_val Later.pre 14 rfl (by kernel_rfl) (by kernel_rfl) (by kernel_rfl) (fun _ _ _ _ h => h) rfl ?_; apply Exists.intro; refine ⟨fun v1 hv1 => ?_, ?_⟩; (· (go_simp; rfl)); simp only [Act.put, List.setIfInBounds_toArray, List.set_cons_zero, List.set_cons_succ]
    refine anyR_val Later.pre 15 rfl (by kernel_rfl) (by kernel_rfl) (by kernel_rfl) (fun _ _ _ _ h => h) rfl ?_; apply Exists.intro; refine ⟨fun v1 hv1 => ?_, ?_⟩; (· (go_simp; rfl)); simp only [Act.put, List.setIfInBounds_toArray, List.set_cons_zero, List.set_cons_succ]
    refine anyR_done (by kernel_rfl) (fun VD hVD => ?_)
    clear ha
    go_wp2_with fail
    go_ret
    exact ⟨by first | rfl | simp, Below.trans L1 (Below.mono (hWd.trans (M6.trans hVD)) L1.size)⟩
end Go.Proofs.Ytmphaaiegofjpaa
