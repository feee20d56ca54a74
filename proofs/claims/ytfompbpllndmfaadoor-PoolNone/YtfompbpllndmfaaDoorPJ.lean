/- Package pool: Has, Give, Take, Free. -/
import Derived.Test.YtfompbpllndmfaaDoorPI
namespace Go.Proofs.YtfompbpllndmfaaDoor
open Go.RowKit Go.Shelf
set_option maxRecDepth 100000
set_option linter.unusedVariables false
set_option linter.unusedSimpArgs false

/-- Is a number taken? -/
def hsP (low high : Nat) (ws : Nat → Nat) (n : Nat) : Bool := decide (low ≤ n) && (decide (n ≤ high) && !fr ws n)

set_option maxHeartbeats 2000000 in
theorem hasP_any (base b low high : Nat) (ws : Nat → Nat) (n : Nat) (w : World) (hT : PB base w b (low : Int) (high : Int) ws) (hn : n < 65536) :
    Calls Tryd.prog 10 #[.pointer (some ⟨b, 0, none⟩), .int .u16 (n : Int)] w fun e w' => e = .returned (.bool (hsP low high ws n)) ∧ Later w w' := by
  have c0 := hT.low
  have c1 := hT.high
  have HH := hide (has_any base b (low : Int) (high : Int) ws n w hT hn)
  by_cases h1 : low ≤ n
  · have h1' : (low : Int) ≤ (n : Int) := by omega
    by_cases h2 : n ≤ high
    · have h2' : (n : Int) ≤ (high : Int) := by omega
      have HV : Hid (hsP low high ws n = !fr ws n) := by show _ = _; unfold hsP; simp [h1, h2]
      clear h1 h2
      go_enter Tryd.func10, Tryd.ntmps10
      go_wp2_with fail
      refine HH.out.mono ?_
      rintro e w1 ⟨rfl, l1⟩
      go_wp2_with fail
      go_ret
      exact ⟨by rw [HV.out]; cases fr ws n <;> rfl, l1⟩
    · have h2' : ¬ (n : Int) ≤ (high : Int) := by omega
      have HV : Hid (hsP low high ws n = false) := by show _ = _; unfold hsP; simp [h2]
      clear h1 h2
      go_enter Tryd.func10, Tryd.ntmps10
      go_wp2_with fail
      go_ret
      exact ⟨by rw [HV.out]; rfl, Later.refl _⟩
  · have h1' : ¬ (low : Int) ≤ (n : Int) := by omega
    have HV : Hid (hsP low high ws n = false) := by show _ = _; unfold hsP; simp [h1]
    clear h1
    go_enter Tryd.func10, Tryd.ntmps10
    go_wp2_with fail
    go_ret
    exact ⟨by rw [HV.out]; rfl, Later.refl _⟩

set_option maxHeartbeats 2000000 in
theorem give_yes (base b low high : Nat) (ws : Nat → Nat) (n : Nat) (w : World) (hT : PB base w b (low : Int) (high : Int) ws) (hn : n < 65536) (hh : hsP low high ws n = true) :
    Calls Tryd.prog 15 #[.pointer (some ⟨b, 0, none⟩), .int .u16 (n : Int)] w fun e w' => e = .returned (.int .i64 0) ∧ PB base w' b (low : Int) (high : Int) (wsA ws n) ∧ But (fun g => g = b) w w' := by
  have HS := hide (hasP_any base b low high ws n w hT hn)
  have HHH := hide hh
  clear hh
  go_enter Tryd.func15, Tryd.ntmps15
  go_wp2_with fail
  refine HS.out.mono ?_
  rintro e w1 ⟨rfl, l1⟩
  rw [HHH.out]
  go_wp2_with fail
  refine (add_any base b (low : Int) (high : Int) ws n w1 (hT.later l1) hn).mono ?_
  rintro e w2 ⟨⟨v, rfl⟩, hT2, hb2⟩
  have hfin : But (fun g => g = b) w w2 := (But.of l1).trans hb2
  go_wp2_with fail
  go_ret
  exact ⟨rfl, hT2, hfin⟩

set_option maxHeartbeats 2000000 in
theorem free8_any (base b : Nat) (low high : Int) (ws : Nat → Nat) (c0 : Nat) (hc0 : cnt ws 1024 = c0) (w : World) (hT : PB base w b low high ws) :
    Calls Tryd.prog 8 #[.pointer (some ⟨b, 0, none⟩)] w fun e w' => e = .returned (.int .i64 (c0 : Nat)) ∧ w' = w := by
  have HC := hide (count_any base b low high ws c0 hc0 w hT)
  clear hc0
  go_enter Tryd.func8, Tryd.ntmps8
  go_wp2_with fail
  refine HC.out.mono ?_
  rintro e w1 ⟨rfl, rfl⟩
  go_wp2_with fail
  go_ret
  exact ⟨rfl, rfl⟩

theorem all8_in (b : Nat) (w : World) : Calls Tryd.prog 22 #[.pointer (some ⟨b, 2, none⟩)] w fun e w' => e = .returned (.func (.func 33) #[] #[.pointer (some ⟨w.heap.size, 0, none⟩)]) ∧ w' = w.alloc (.cells #[.pointer (some ⟨b, 2, none⟩)] 62) := by
  go_enter Tryd.func22, Tryd.ntmps22
  go_wp2_with fail
  go_ret
  exact ⟨rfl, rfl⟩

/-- The words behind a number that is removed. -/
def wsR (ws : Nat → Nat) (n : Nat) : Nat → Nat := upd ws (n / 64) (ws (n / 64) &&& (18446744073709551615 - 2 ^ (n % 64)))
/-- How Take leaves a pool. -/
def tkP (base : Nat) (W' : World) (b low high : Nat) (ws : Nat → Nat) (q : Bool) (L : List Nat) (n : Nat) : Prop := (fsb q L = false ∧ PB base W' b (low : Int) (high : Int) ws) ∨ (fsb q L = true ∧ PB base W' b (low : Int) (high : Int) (wsR ws n))

/-- What Take answers besides. -/
def tke (q : Bool) (L : List Nat) : Int := if fsb q L = true then 0 else 9
theorem tke_t {q : Bool} {L : List Nat} (h : fsb q L = true) : tke q L = 0 := by unfold tke; rw [if_pos h]
theorem tke_f {q : Bool} {L : List Nat} (h : fsb q L = false) : tke q L = 9 := by unfold tke; rw [if_neg (by rw [h]; simp)]

theorem els_lt {ws : Nat → Nat} {x : Nat} (h : x ∈ els ws) : x < 65536 := by
  unfold els elsTo wel at h
  obtain ⟨i, hi, hx⟩ := List.mem_flatMap.1 h
  obtain ⟨j, hj, rfl⟩ := List.mem_map.1 hx
  unfold Pm.bl at hj
  have h1 := (List.mem_filter.1 hj).1
  simp at hi h1
  omega

set_option maxHeartbeats 4000000 in
theorem take8_any (base b low high : Nat) (ws : Nat → Nat) (wish : Nat) (w : World) (hT : PB base w b (low : Int) (high : Int) ws) (hw : wish < 65536) (hz : Dz w) :
    Calls Tryd.prog 9 #[.pointer (some ⟨b, 0, none⟩), .int .u16 (wish : Int)] w fun e w' => e = .returned (.tuple #[.int .u16 (fsn (fr ws wish) wish (els ws) : Nat), .int .i64 (tke (fr ws wish) (els ws))]) ∧ tkP base w' b low high ws (fr ws wish) (els ws) (fsn (fr ws wish) wish (els ws)) ∧ But (fun g => g = b) w w' := by
  go_enter Tryd.func9, Tryd.ntmps9
  go_upto_region 3 with fail
  refine anyT_begin (R := But (fun _ => False)) 15 rfl (by kernel_rfl) ?_
  have ld : Later w w.drew := Later.drew w
  have hTd := hT.later ld
  have hzd := hz.later ld
  generalize w.drew = Wd at *
  refine anyT_val (But.pre _) 0 rfl (by kernel_rfl) (by kernel_rfl) (by kernel_rfl) (fun _ _ _ _ h => h) rfl ?_; apply Exists.intro; refine ⟨fun v1 hv1 => ?_, ?_⟩; (· (go_simp; rfl)); simp only [Act.put, List.setIfInBounds_toArray, List.set_cons_zero, List.set_cons_succ]
  refine anyT_val (But.pre _) 1 rfl (by kernel_rfl) (by kernel_rfl) (by kernel_rfl) (fun _ _ _ _ h => h) rfl ?_; apply Exists.intro; refine ⟨fun v1 hv1 => ?_, ?_⟩; (· (go_simp; rfl)); simp only [Act.put, List.setIfInBounds_toArray, List.set_cons_zero, List.set_cons_succ]
  refine anyT_val (But.pre _) 2 rfl (by kernel_rfl) (by kernel_rfl) (by kernel_rfl) (fun _ _ _ _ h => h) rfl ?_; apply Exists.intro; refine ⟨fun v1 hv1 => ?_, ?_⟩; (· (go_simp; rfl)); simp only [Act.put, List.setIfInBounds_toArray, List.set_cons_zero, List.set_cons_succ]
  refine anyT_val (But.pre _) 3 rfl (by kernel_rfl) (by kernel_rfl) (by kernel_rfl) (fun _ _ _ _ h => h) rfl ?_; apply Exists.intro; refine ⟨fun v1 hv1 => ?_, ?_⟩; (· (go_simp; rfl)); simp only [Act.put, List.setIfInBounds_toArray, List.set_cons_zero, List.set_cons_succ]
  refine anyT_val (But.pre _) 4 rfl (by kernel_rfl) (by kernel_rfl) (by kernel_rfl) (fun _ _ _ _ h => h) rfl ?_; apply Exists.intro; refine ⟨fun v1 hv1 => ?_, ?_⟩; (· (go_simp; rfl)); simp only [Act.put, List.setIfInBounds_toArray, List.set_cons_zero, List.set_cons_succ]
  refine anyT_val (But.pre _) 5 rfl (by kernel_rfl) (by kernel_rfl) (by kernel_rfl) (fun _ _ _ _ h => h) rfl ?_; apply Exists.intro; refine ⟨fun v1 hv1 => ?_, ?_⟩; (· (go_simp; rfl)); simp only [Act.put, List.setIfInBounds_toArray, List.set_cons_zero, List.set_cons_succ]
  refine anyT_val (But.pre _) 6 rfl (by kernel_rfl) (by kernel_rfl) (by kernel_rfl) (fun _ _ _ _ h => h) rfl ?_; apply Exists.intro; refine ⟨fun v1 hv1 => ?_, ?_⟩; (· (go_simp; rfl)); simp only [Act.put, List.setIfInBounds_toArray, List.set_cons_zero, List.set_cons_succ]
  refine anyT_val (But.pre _) 7 rfl (by kernel_rfl) (by kernel_rfl) (by kernel_rfl) (fun _ _ _ _ h => h) rfl ?_; apply Exists.intro; refine ⟨fun v1 hv1 => ?_, ?_⟩; (· (go_simp; rfl)); simp only [Act.put, List.setIfInBounds_toArray, List.set_cons_zero, List.set_cons_succ]
  refine anyT_one 8 rfl (by kernel_rfl) rfl ?_
  refine wp_enter 22 #[.pointer (some ⟨b, 2, none⟩)] (by go_simp) ?_
  refine (all8_in b Wd).mono ?_
  rintro e W1 ⟨rfl, hW1⟩
  have la : Later Wd W1 := by rw [hW1]; exact (Below.refl _ _).alloc (Nat.le_refl _) _
  have hbx : W1.heap[Wd.heap.size]? = some (.cells #[.pointer (some ⟨b, 2, none⟩)] 62 (0, 0)) := by rw [hW1]; exact heap_alloc_new _ _
  clear hW1
  refine ⟨But.of la, ?_⟩
  simp only [Act.put, List.setIfInBounds_toArray, List.set_cons_zero, List.set_cons_succ]
  have hT1 := hTd.later la
  have hz1 := hzd.later la
  have hbl := hTd.lt
  generalize Wd.heap.size = B at *
  have hBl : B < W1.heap.size := (Array.getElem?_eq_some_iff.1 hbx).1
  have HF := hide (first8_any wish 21 33 (.pointer (some ⟨b, 2, none⟩)) #[.pointer (some ⟨B, 0, none⟩)] (fr ws wish) (els ws) (KN (b + 1) B) W1
    (enters_of Tryd.func21 (by kernel_rfl) rfl) (enters_of Tryd.func33 (by kernel_rfl) rfl)
    (fun W hW => has_any base b (low : Int) (high : Int) ws wish W (hT1.later hW) hw)
    (fun w4 h4 => alln_gen 4 (by omega) B b (b + 1) base (low : Int) (high : Int) ws w4 (later_keep h4 hbx) (by have := Below.size h4; omega) (hT1.later h4) (by omega) (hz1.later h4) (by omega))
    (fun h k => h.trans k) (fun w4 W l o o' h4 hl ho hc hw => (kl_put (b := b) (m := w4.heap.size) (by have := Below.size h4; omega) (by have := Below.size h4; omega) (by have := Below.size h4; omega) hl ho hc hw).1) (fun h4 hA hL => KN.of hL (by have := Below.size h4; omega)))
  refine anyT_one 9 rfl (by kernel_rfl) rfl ?_
  refine wp_enter 20 #[.int .u16 (wish : Int), .func (.func 21) #[.pointer (some ⟨b, 2, none⟩)] #[], .func (.func 33) #[] #[.pointer (some ⟨B, 0, none⟩)]] (by go_simp) ?_
  refine HF.out.mono ?_
  rintro e W2 ⟨rfl, l2⟩
  refine ⟨But.of l2, ?_⟩
  simp only [Act.put, List.setIfInBounds_toArray, List.set_cons_zero, List.set_cons_succ]
  have hlim : fsb (fr ws wish) (els ws) = true → fsn (fr ws wish) wish (els ws) < 65536 := fun h => by
    unfold fsb at h
    unfold fsn
    cases hq : fr ws wish with
    | true => simpa using hw
    | false =>
      rw [hq] at h
      cases hL : els ws with
      | nil => rw [hL] at h; simp at h
      | cons x L =>
        have : x ∈ els ws := by rw [hL]; simp
        simpa using els_lt this
  have HLM := hide hlim
  have hbW2 : But (fun g => g = b) w W2 := (But.of ld).trans ((But.of la).trans (But.of l2))
  have hT2 := hT1.later l2
  clear hlim HF la l2 ld hTd hT1 hzd hz1
  generalize hqe : fr ws wish = q at *
  generalize hLe : els ws = L at *
  have HQE := hide hqe
  have HLE := hide hLe
  clear hqe hLe
  generalize hne : fsn q wish L = n at *
  have HNE := hide hne
  clear hne
  cases hbe : fsb q L with
  | true =>
    rw [hbe] at HLM
    have hn := HLM.out rfl
    have HBE := hide hbe
    clear hbe
    refine anyT_val (But.pre _) 10 rfl (by kernel_rfl) (by kernel_rfl) (by kernel_rfl) (fun _ _ _ _ h => h) rfl ?_; apply Exists.intro; refine ⟨fun v1 hv1 => ?_, ?_⟩; (· (go_simp; rfl)); simp only [Act.put, List.setIfInBounds_toArray, List.set_cons_zero, List.set_cons_succ]
    refine anyT_val (But.pre _) 11 rfl (by kernel_rfl) (by kernel_rfl) (by kernel_rfl) (fun _ _ _ _ h => h) rfl ?_; apply Exists.intro; refine ⟨fun v1 hv1 => ?_, ?_⟩; (· (go_simp; rfl)); simp only [Act.put, List.setIfInBounds_toArray, List.set_cons_zero, List.set_cons_succ]
    refine anyT_val (But.pre _) 12 rfl (by kernel_rfl) (by kernel_rfl) (by kernel_rfl) (fun _ _ _ _ h => h) rfl ?_; apply Exists.intro; refine ⟨fun v1 hv1 => ?_, ?_⟩; (· (go_simp; rfl)); simp only [Act.put, List.setIfInBounds_toArray, List.set_cons_zero, List.set_cons_succ]
    refine anyT_val (But.pre _) 13 rfl (by kernel_rfl) (by kernel_rfl) (by kernel_rfl) (fun _ _ _ _ h => h) rfl ?_; apply Exists.intro; refine ⟨fun v1 hv1 => ?_, ?_⟩; (· (go_simp; rfl)); simp only [Act.put, List.setIfInBounds_toArray, List.set_cons_zero, List.set_cons_succ]
    refine anyT_val (But.pre _) 14 rfl (by kernel_rfl) (by kernel_rfl) (by kernel_rfl) (fun _ _ _ _ h => h) rfl ?_; apply Exists.intro; refine ⟨fun v1 hv1 => ?_, ?_⟩; (· (go_simp; rfl)); simp only [Act.put, List.setIfInBounds_toArray, List.set_cons_zero, List.set_cons_succ]
    refine anyT_done (by kernel_rfl) ?_
    go_wp2_with fail
    refine (remove_any base b (low : Int) (high : Int) ws n W2 hT2 hn).mono ?_
    rintro e W3 ⟨⟨v, rfl⟩, hT3, hb3⟩
    have hfb := hbW2.trans hb3
    go_wp2_with fail
    refine bodyPost_ret (v := .tuple #[.int .u16 (n : Int), .int .i64 0]) (by simp [results, Tryd.results9, go_sem]) rfl ?_
    rw [HQE.out, HLE.out, HNE.out, tke_t HBE.out]
    exact ⟨rfl, .inr ⟨HBE.out, hT3⟩, hfb⟩
  | false =>
    have HBE := hide hbe
    clear hbe
    refine anyT_val (But.pre _) 10 rfl (by kernel_rfl) (by kernel_rfl) (by kernel_rfl) (fun _ _ _ _ h => h) rfl ?_; apply Exists.intro; refine ⟨fun v1 hv1 => ?_, ?_⟩; (· (go_simp; rfl)); simp only [Act.put, List.setIfInBounds_toArray, List.set_cons_zero, List.set_cons_succ]
    refine anyT_val (But.pre _) 11 rfl (by kernel_rfl) (by kernel_rfl) (by kernel_rfl) (fun _ _ _ _ h => h) rfl ?_; apply Exists.intro; refine ⟨fun v1 hv1 => ?_, ?_⟩; (· (go_simp; rfl)); simp only [Act.put, List.setIfInBounds_toArray, List.set_cons_zero, List.set_cons_succ]
    refine anyT_val (But.pre _) 12 rfl (by kernel_rfl) (by kernel_rfl) (by kernel_rfl) (fun _ _ _ _ h => h) rfl ?_; apply Exists.intro; refine ⟨fun v1 hv1 => ?_, ?_⟩; (· (go_simp; rfl)); simp only [Act.put, List.setIfInBounds_toArray, List.set_cons_zero, List.set_cons_succ]
    refine anyT_val (But.pre _) 13 rfl (by kernel_rfl) (by kernel_rfl) (by kernel_rfl) (fun _ _ _ _ h => h) rfl ?_; apply Exists.intro; refine ⟨fun v1 hv1 => ?_, ?_⟩; (· (go_simp; rfl)); simp only [Act.put, List.setIfInBounds_toArray, List.set_cons_zero, List.set_cons_succ]
    refine anyT_val (But.pre _) 14 rfl (by kernel_rfl) (by kernel_rfl) (by kernel_rfl) (fun _ _ _ _ h => h) rfl ?_; apply Exists.intro; refine ⟨fun v1 hv1 => ?_, ?_⟩; (· (go_simp; rfl)); simp only [Act.put, List.setIfInBounds_toArray, List.set_cons_zero, List.set_cons_succ]
    refine anyT_done (by kernel_rfl) ?_
    go_wp2_with fail
    refine bodyPost_ret (v := .tuple #[.int .u16 0, .int .i64 9]) (by simp [results, Tryd.results9, go_sem]) rfl ?_
    rw [HQE.out, HLE.out, HNE.out, tke_f HBE.out]
    have hn0 : n = 0 := by
      rw [← HNE.out]
      have := HBE.out
      unfold fsb at this
      unfold fsn
      cases q with
      | true => simp at this
      | false =>
        cases L with
        | nil => rfl
        | cons x L => simp at this
    subst hn0
    exact ⟨rfl, .inl ⟨HBE.out, hT2⟩, hbW2⟩
end Go.Proofs.YtfompbpllndmfaaDoor
