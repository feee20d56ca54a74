/- Package pool: Pair. -/
import Derived.Test.YtfompbpllndmfaaDoorPN
namespace Go.Proofs.YtfompbpllndmfaaDoor
open Go.RowKit Go.Shelf
set_option maxRecDepth 100000
set_option linter.unusedVariables false
set_option linter.unusedSimpArgs false

theorem pairs8_in (b : Nat) (w : World) : Calls Tryd.prog 26 #[.pointer (some ⟨b, 2, none⟩)] w fun e w' => e = .returned (.func (.func 36) #[] #[.pointer (some ⟨w.heap.size, 0, none⟩)]) ∧ w' = w.alloc (.cells #[.pointer (some ⟨b, 2, none⟩)] 62) := by
  go_enter Tryd.func26, Tryd.ntmps26
  go_wp2_with fail
  go_ret
  exact ⟨rfl, rfl⟩

/-- How Pair leaves a pool. -/
def tkQ (base : Nat) (W' : World) (b low high : Nat) (ws : Nat → Nat) (q : Bool) (L : List Nat) (n : Nat) : Prop := (fsb q L = false ∧ PB base W' b (low : Int) (high : Int) ws) ∨ (fsb q L = true ∧ PB base W' b (low : Int) (high : Int) (wsR (wsR ws n) (n + 1)))

theorem pair_lim {ws : Nat → Nat} {wish : Nat} (hw : wish < 65536) (h : fsb (prs ws wish) (prl ws (els ws)) = true) : fsn (prs ws wish) wish (prl ws (els ws)) < 65536 ∧ fsn (prs ws wish) wish (prl ws (els ws)) % 2 = 0 := by
  unfold fsb at h
  unfold fsn
  cases hq : prs ws wish with
  | true =>
    unfold prs at hq
    simp at hq
    exact ⟨by simpa using hw, by simpa using hq.1⟩
  | false =>
    rw [hq] at h
    cases hL : prl ws (els ws) with
    | nil => rw [hL] at h; simp at h
    | cons x L =>
      have hx : x ∈ prl ws (els ws) := by rw [hL]; simp
      unfold prl at hx
      obtain ⟨h1, h2⟩ := List.mem_filter.1 hx
      unfold prs at h2
      simp at h2
      exact ⟨by simpa using els_lt h1, by simpa using h2.1⟩

set_option maxHeartbeats 4000000 in
theorem pair8_any (base b low high : Nat) (ws : Nat → Nat) (wish : Nat) (w : World) (hT : PB base w b (low : Int) (high : Int) ws) (hw : wish < 65536) (hz : Dz w) :
    Calls Tryd.prog 14 #[.pointer (some ⟨b, 0, none⟩), .int .u16 (wish : Int)] w fun e w' => e = .returned (.tuple #[.int .u16 (fsn (prs ws wish) wish (prl ws (els ws)) : Nat), .int .i64 (tke (prs ws wish) (prl ws (els ws)))]) ∧ tkQ base w' b low high ws (prs ws wish) (prl ws (els ws)) (fsn (prs ws wish) wish (prl ws (els ws))) ∧ But (fun g => g = b) w w' := by
  go_enter Tryd.func14, Tryd.ntmps14
  go_upto_region 3 with fail
  refine anyT_begin (R := But (fun _ => False)) 15 rfl (by kernel_rfl) ?_
  have ld : Later w w.drew := Later.drew w
  have hTd := hT.later ld
  have hzd := hz.later ld
  generalize w.drew = Wd at *
  refine anyT_val (But.pre _) 0 rfl (by kernel_rfl) (by kernel_rfl) (by kernel_rfl) (fun _ _ _ _ h => h) rfl ?_; apply Exists.intro; refine ⟨fun v1 hv1 => ?_, ?_⟩; (· (go_simp; rfl)); simp only [Act.put, List.setIfInBounds_toArray, List.set_cons_zero, List.set_cons_succ]
  refine anyT_val (But.pre _) 1 rfl (by kernel_rfl) (by kernel_rfl) (by kernel_rfl) (fun _ _ _ _ h => h) rfl ?_; apply Exists.intro; refine ⟨fun v1 hv1 => ?_, ?_⟩; (· (go_simp; rfl)); simp only [Act.put, List.setIfInBounds_toArray, List.set_cons_zero, List.set_cons_succ]
  refine anyT_val (But.pre _) 2 rfl (by kernel_rfl) (by kernel_rfl) (by kernel_rfl) (fun _ _ _ _ h => h) rfl ?_; apply Exists.intro; refine ⟨fun v1 hv1 => ?_, ?_⟩; (· (go_simp; rfl)); simp only [Act.put, List.setIfInBounds_toArray, List.set_cons_zero, List.set_cons_succ]
  refine anyT_val (But.pre _) 3 rfl (by kernel_rfl) (by kernel_rfl) (by kernel_rfl) (fun _ _ _ _ h => h) rfl ?_; apply Exists.intro; refine ⟨fun v1 hv1 => ?_, ?_⟩; (· (go_simp; rfl)); simp only [Act.put, List.setIfInBounds_toArray, List.set_cons_zero, List.set_cons_succ]
  refine anyT_val (But.pre _) 4 rfl (by kernel_rfl) (by kernel_rfl) (by kernel_rfl) (fun _ _ _ _ h => h) rfl ?_; apply Exists.intro; refine ⟨fun v1 hv1 => ?_, ?_⟩; (· (go_simp; rfl)); simp only [Act.put, List.setIfInBounds_toArray, List.set_cons_zero, List.set_cons_succ]
  refine anyT_val (But.pre _) 5 rfl (by kernel_rfl) (by kernel_rfl) (by kernel_rfl) (fun _ _ _ _ h => h) rfl ?_; apply Exists.intro; refine ⟨fun v1 hv1 => ?_, ?_⟩; (· (go_simp; rfl)); simp only [Act.put, List.setIfInBounds_toArray, List.set_cons_zero, List.set_cons_succ]
  refine anyT_val (But.pre _) 6 rfl (by kernel_rfl) (by kernel_rfl) (by kernel_rfl) (fun _ _ _ _ h => h) rfl ?_; apply Exists.intro; refine ⟨fun v1 hv1 => ?_, ?_⟩; (· (go_simp; rfl)); simp only [Act.put, List.setIfInBounds_toArray, List.set_cons_zero, List.set_cons_succ]
  refine anyT_val (But.pre _) 7 rfl (by kernel_rfl) (by kernel_rfl) (by kernel_rfl) (fun _ _ _ _ h => h) rfl ?_; apply Exists.intro; refine ⟨fun v1 hv1 => ?_, ?_⟩; (· (go_simp; rfl)); simp only [Act.put, List.setIfInBounds_toArray, List.set_cons_zero, List.set_cons_succ]
  refine anyT_one 8 rfl (by kernel_rfl) rfl ?_
  refine wp_enter 26 #[.pointer (some ⟨b, 2, none⟩)] (by go_simp) ?_
  refine (pairs8_in b Wd).mono ?_
  rintro e W1 ⟨rfl, hW1⟩
  have la : Later Wd W1 := by rw [hW1]; exact (Below.refl _ _).alloc (Nat.le_refl _) _
  have hbx : W1.heap[Wd.heap.size]? = some (.cells #[.pointer (some ⟨b, 2, none⟩)] 62 (0, 0)) := by rw [hW1]; exact heap_alloc_new _ _
  clear hW1
  refine ⟨But.of la, ?_⟩
  simp only [Act.put, List.setIfInBounds_toArray, List.set_cons_zero, List.set_cons_succ]
  have hT1 := hTd.later la
  have hz1 := hzd.later la
  have hbl := hTd.lt
  generalize Wd.heap.size = B at *
  have hBl : B < W1.heap.size := (Array.getElem?_eq_some_iff.1 hbx).1
  have HF := hide (first8_o wish 25 36 (.pointer (some ⟨b, 2, none⟩)) #[.pointer (some ⟨B, 0, none⟩)] (prs ws wish) (prl ws (els ws)) (KY (b + 1)) W1
    (enters_of Tryd.func25 (by kernel_rfl) rfl) (enters_of Tryd.func36 (by kernel_rfl) rfl)
    (fun W hW => hasPair_any base b (low : Int) (high : Int) ws wish W (hT1.later hW) hw)
    (fun w4 h4 => pairs_gen B b (b + 1) base (low : Int) (high : Int) ws w4 (later_keep h4 hbx) (by have := Below.size h4; omega) (hT1.later h4) (by omega) (hz1.later h4) (by omega))
    (fun h k => h.trans k) (fun w4 W l o o' h4 hl ho hc hw => KY.put (m := w4.heap.size) (by have := Below.size h4; omega) hl ho hc) (fun h4 hA hL => KY.of hL (by have := Below.size h4; omega)))
  refine anyT_one 9 rfl (by kernel_rfl) rfl ?_
  refine wp_enter 20 #[.int .u16 (wish : Int), .func (.func 25) #[.pointer (some ⟨b, 2, none⟩)] #[], .func (.func 36) #[] #[.pointer (some ⟨B, 0, none⟩)]] (by go_simp) ?_
  refine HF.out.mono ?_
  rintro e W2 ⟨rfl, l2⟩
  refine ⟨But.of l2, ?_⟩
  simp only [Act.put, List.setIfInBounds_toArray, List.set_cons_zero, List.set_cons_succ]
  have hlim : fsb (prs ws wish) (prl ws (els ws)) = true → fsn (prs ws wish) wish (prl ws (els ws)) < 65536 ∧ fsn (prs ws wish) wish (prl ws (els ws)) % 2 = 0 := fun h => pair_lim hw h
  have HLM := hide hlim
  have hbW2 : But (fun g => g = b) w W2 := (But.of ld).trans ((But.of la).trans (But.of l2))
  have hT2 := hT1.later l2
  clear hlim HF la l2 ld hTd hT1 hzd hz1
  generalize hqe : prs ws wish = q at *
  generalize hLe : prl ws (els ws) = L at *
  have HQE := hide hqe
  have HLE := hide hLe
  clear hqe hLe
  generalize hne : fsn q wish L = n at *
  have HNE := hide hne
  clear hne
  cases hbe : fsb q L with
  | true =>
    rw [hbe] at HLM
    obtain ⟨hn, hn2⟩ := HLM.out rfl
    have hn1 : n + 1 < 65536 := by omega
    have hn1' : (n : Int) + 1 < 65536 := by omega
    have HBE := hide hbe
    clear hbe
    refine anyT_val (But.pre _) 10 rfl (by kernel_rfl) (by kernel_rfl) (by kernel_rfl) (fun _ _ _ _ h => h) rfl ?_; apply Exists.intro; refine ⟨fun v1 hv1 => ?_, ?_⟩; (· (go_simp; rfl)); simp only [Act.put, List.setIfInBounds_toArray, List.set_cons_zero, List.set_cons_succ]
    refine anyT_val (But.pre _) 11 rfl (by kernel_rfl) (by kernel_rfl) (by kernel_rfl) (fun _ _ _ _ h => h) rfl ?_; apply Exists.intro; refine ⟨fun v1 hv1 => ?_, ?_⟩; (· (go_simp; rfl)); simp only [Act.put, List.setIfInBounds_toArray, List.set_cons_zero, List.set_cons_succ]
    refine anyT_val (But.pre _) 12 rfl (by kernel_rfl) (by kernel_rfl) (by kernel_rfl) (fun _ _ _ _ h => h) rfl ?_; apply Exists.intro; refine ⟨fun v1 hv1 => ?_, ?_⟩; (· (go_simp; rfl)); simp only [Act.put, List.setIfInBounds_toArray, List.set_cons_zero, List.set_cons_succ]
    refine anyT_val (But.pre _) 13 rfl (by kernel_rfl) (by kernel_rfl) (by kernel_rfl) (fun _ _ _ _ h => h) rfl ?_; apply Exists.intro; refine ⟨fun v1 hv1 => ?_, ?_⟩; (· (go_simp; rfl)); simp only [Act.put, List.setIfInBounds_toArray, List.set_cons_zero, List.set_cons_succ]
    refine anyT_val (But.pre _) 14 rfl (by kernel_rfl) (by kernel_rfl) (by kernel_rfl) (fun _ _ _ _ h => h) rfl ?_; apply Exists.intro; refine ⟨fun v1 hv1 => ?_, ?_⟩; (· (go_simp; rfl)); simp only [Act.put, List.setIfInBounds_toArray, List.set_cons_zero, List.set_cons_succ]
    refine anyT_done (by kernel_rfl) ?_
    go_wp2_with fail
    refine (remove_any base b (low : Int) (high : Int) ws n W2 hT2 hn).mono ?_
    rintro e W3a ⟨⟨v, rfl⟩, hT3a, hb3a⟩
    have HR2 := hide (remove_any base b (low : Int) (high : Int) _ (n + 1) W3a hT3a hn1)
    rw [show ((n + 1 : Nat) : Int) = (n : Int) + 1 from by omega] at HR2
    clear hn2
    go_wp2_with fail
    refine HR2.out.mono ?_
    rintro e W3 ⟨⟨v2, rfl⟩, hT3, hb3⟩
    have hfb := (hbW2.trans hb3a).trans hb3
    go_wp2_with fail
    refine bodyPost_ret (v := .tuple #[.int .u16 (n : Int), .int .i64 0]) (by simp [results, Tryd.results14, go_sem]) rfl ?_
    rw [HQE.out, HLE.out, HNE.out, tke_t HBE.out]
    exact ⟨rfl, .inr ⟨HBE.out, hT3⟩, hfb⟩
  | false =>
    have HBE := hide hbe
    clear hbe
    refine anyT_val (But.pre _) 10 rfl (by kernel_rfl) (by kernel_rfl) (by kernel_rfl) (fun _ _ _ _ h => h) rfl ?_; apply Exists.intro; refine ⟨fun v1 hv1 => ?_, ?_⟩; (· (go_simp; rfl)); simp only [Act.put, List.setIfInBounds_toArray, List.set_cons_zero, List.set_cons_succ]
    refine anyT_val (But.pre _) 11 rfl (by kernel_rfl) (by kernel_rfl) (by kernel_rfl) (fun _ _ _ _ h => h) rfl ?_; apply Exists.intro; refine ⟨fun v1 hv1 => ?_, ?_⟩; (· (go_simp; rfl)); simp only [Act.put, List.setIfInBounds_toArray, List.set_cons_zero, List.set_cons_succ]
    refine anyT_val (But.pre _) 12 rfl (by kernel_rfl) (by kernel_rfl) (by kernel_rfl) (fun _ _ _ _ h => h) rfl ?_; apply Exists.intro; refine ⟨fun v1 hv1 => ?_, ?_⟩; (· (go_simp; rfl)); simp only [Act.put, List.setIfInBounds_toArray, List.set_cons_zero, List.set_cons_succ]
    refine anyT_val (But.pre _) 13 rfl (by kernel_rfl) (by kernel_rfl) (by kernel_rfl) (fun _ _ _ _ h => h) rfl ?_; apply Exists.intro; refine ⟨fun v1 hv1 => ?_, ?_⟩; (· (go_simp; rfl)); simp only [Act.put, List.setIfInBounds_toArray, List.set_cons_zero, List.set_cons_succ]
    refine anyT_val (But.pre _) 14 rfl (by kernel_rfl) (by kernel_rfl) (by kernel_rfl) (fun _ _ _ _ h => h) rfl ?_; apply Exists.intro; refine ⟨fun v1 hv1 => ?_, ?_⟩; (· (go_simp; rfl)); simp only [Act.put, List.setIfInBounds_toArray, List.set_cons_zero, List.set_cons_succ]
    refine anyT_done (by kernel_rfl) ?_
    go_wp2_with fail
    refine bodyPost_ret (v := .tuple #[.int .u16 0, .int .i64 9]) (by simp [results, Tryd.results14, go_sem]) rfl ?_
    rw [HQE.out, HLE.out, HNE.out, tke_f HBE.out]
    have hn0 : n = 0 := by
      rw [← HNE.out]
      have := HBE.out
      unfold fsb at this
      unfold fsn
      cases q with
      | true => simp at this
      | false =>
        cases L with
        | nil => rfl
        | cons x L => simp at this
    subst hn0
    exact ⟨rfl, .inl ⟨HBE.out, hT2⟩, hbW2⟩
end Go.Proofs.YtfompbpllndmfaaDoor
