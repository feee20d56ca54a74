/- Package pool: what nil answers, the law's live, the walk of PoolNone. -/
import Derived.Test.YtfompbpllndmfaaDoorPO
import Derived.Test.YtfompbpllndmfaaDoorPL
namespace Go.Proofs.YtfompbpllndmfaaDoor
open Go.RowKit Go.Shelf
set_option maxRecDepth 100000
set_option linter.unusedVariables false
set_option linter.unusedSimpArgs false

theorem fr_wsR (ws : Nat → Nat) (n m : Nat) : fr (wsR ws n) m = (fr ws m && !decide (m = n)) := fr_remove ws n m
theorem fr_wsA (ws : Nat → Nat) (n m : Nat) : fr (wsA ws n) m = (fr ws m || decide (m = n)) := fr_add ws n m

theorem els_congr {ws ws' : Nat → Nat} (h : ∀ m, m < 65536 → fr ws m = fr ws' m) : els ws = els ws' := by
  rw [els_eq, els_eq]
  exact List.filter_congr (fun x hx => h x (by simpa using hx))
theorem cnt_els (ws : Nat → Nat) : cnt ws 1024 = (els ws).length := cnt_eq ws 1024
theorem els_remove (ws : Nat → Nat) (n : Nat) : els (wsR ws n) = (els ws).erase n := by
  have hnd : (els ws).Nodup := by rw [els_eq]; exact List.Nodup.sublist List.filter_sublist List.nodup_range
  rw [List.Nodup.erase_eq_filter hnd, els_eq, els_eq, List.filter_filter]
  refine List.filter_congr (fun x hx => ?_)
  rw [fr_wsR, Bool.and_comm]
  congr 1
  first | done | (rw [Bool.eq_iff_iff]; simp)
theorem mem_els {ws : Nat → Nat} {n : Nat} : n ∈ els ws ↔ n < 65536 ∧ fr ws n = true := by rw [els_eq]; simp
theorem cnt_remove (ws : Nat → Nat) (n : Nat) (hn : n < 65536) (h : fr ws n = true) : cnt (wsR ws n) 1024 + 1 = cnt ws 1024 := by
  rw [cnt_els, cnt_els, els_remove]
  have hm : n ∈ els ws := mem_els.2 ⟨hn, h⟩
  have := List.length_erase_of_mem hm
  have := List.length_pos_of_mem hm
  omega
theorem cnt_add (ws : Nat → Nat) (n : Nat) (hn : n < 65536) (h : fr ws n = false) : cnt (wsA ws n) 1024 = cnt ws 1024 + 1 := by
  have h1 := cnt_remove (wsA ws n) n hn (by rw [fr_wsA]; simp)
  have h2 : els (wsR (wsA ws n) n) = els ws := els_congr (fun m _ => by
    rw [fr_wsR, fr_wsA]
    by_cases e : m = n
    · subst e; simp [h]
    · simp [e])
  rw [cnt_els, h2, ← cnt_els] at h1
  exact h1.symm
theorem head_least {p : Nat → Bool} {N a : Nat} (ha : a < N) (hp : p a = true) (hl : ∀ m, m < a → p m = false) : ∃ L, (List.range N).filter p = a :: L := by
  obtain ⟨k, rfl⟩ : ∃ k, N = a + 1 + k := ⟨N - a - 1, by omega⟩
  rw [List.range_add, List.filter_append, List.range_succ, List.filter_append, (List.filter_eq_nil_iff.2 (fun x hx => by rw [hl x (by simpa using hx)]; simp)), List.nil_append]
  simp [hp]

theorem take_wish (base b low high : Nat) (ws : Nat → Nat) (wish : Nat) (w : World) (hT : PB base w b (low : Int) (high : Int) ws) (hz : Dz w) (hw : wish < 65536) (hq : fr ws wish = true) :
    Calls Tryd.prog 9 #[.pointer (some ⟨b, 0, none⟩), .int .u16 (wish : Int)] w fun e w' => e = .returned (.tuple #[.int .u16 (wish : Int), .int .i64 0]) ∧ PB base w' b (low : Int) (high : Int) (wsR ws wish) ∧ But (fun g => g = b) w w' := by
  refine (take8_any base b low high ws wish w hT hw hz).mono ?_
  rintro e w' ⟨rfl, ht, hbt⟩
  rw [hq] at ht ⊢
  have hb : fsb true (els ws) = true := rfl
  rw [tke_t hb]
  rcases ht with ⟨h1, _⟩ | ⟨_, h2⟩
  · cases h1
  · exact ⟨rfl, h2, hbt⟩
theorem take_least (base b low high : Nat) (ws : Nat → Nat) (wish a : Nat) (w : World) (hT : PB base w b (low : Int) (high : Int) ws) (hz : Dz w) (hw : wish < 65536) (hq : fr ws wish = false) (ha : a < 65536) (hfa : fr ws a = true) (hl : ∀ m, m < a → fr ws m = false) :
    Calls Tryd.prog 9 #[.pointer (some ⟨b, 0, none⟩), .int .u16 (wish : Int)] w fun e w' => e = .returned (.tuple #[.int .u16 (a : Int), .int .i64 0]) ∧ PB base w' b (low : Int) (high : Int) (wsR ws a) ∧ But (fun g => g = b) w w' := by
  obtain ⟨L, hL⟩ := head_least ha hfa hl
  rw [← els_eq] at hL
  have hn : fsn false wish (els ws) = a := by unfold fsn; rw [hL]; simp
  have hb : fsb false (els ws) = true := by unfold fsb; rw [hL]; simp
  refine (take8_any base b low high ws wish w hT hw hz).mono ?_
  rintro e w' ⟨rfl, ht, hbt⟩
  rw [hq] at ht ⊢
  rw [hn] at ht ⊢
  rw [tke_t hb]
  rcases ht with ⟨h1, _⟩ | ⟨_, h2⟩
  · rw [hb] at h1; cases h1
  · exact ⟨rfl, h2, hbt⟩
theorem pair_none (base b low high : Nat) (ws : Nat → Nat) (wish : Nat) (w : World) (hT : PB base w b (low : Int) (high : Int) ws) (hz : Dz w) (hw : wish < 65536) (h : ∀ m, m < 65536 → prs ws m = false) :
    Calls Tryd.prog 14 #[.pointer (some ⟨b, 0, none⟩), .int .u16 (wish : Int)] w fun e w' => e = .returned (.tuple #[.int .u16 0, .int .i64 9]) ∧ PB base w' b (low : Int) (high : Int) ws ∧ But (fun g => g = b) w w' := by
  have hL : prl ws (els ws) = [] := List.filter_eq_nil_iff.2 (fun x hx => by rw [h x (els_lt hx)]; simp)
  have hn : fsn false wish (prl ws (els ws)) = 0 := by unfold fsn; rw [hL]; rfl
  have hb : fsb false (prl ws (els ws)) = false := by unfold fsb; rw [hL]; rfl
  refine (pair8_any base b low high ws wish w hT hw hz).mono ?_
  rintro e w' ⟨rfl, ht, hbt⟩
  rw [h wish hw] at ht ⊢
  rw [hn] at ht ⊢
  rw [tke_f hb]
  rcases ht with ⟨_, h2⟩ | ⟨h1, _⟩
  · exact ⟨rfl, h2, hbt⟩
  · rw [hb] at h1; cases h1

theorem take_nil (n : Int) (w : World) : Calls Tryd.prog 9 #[.pointer none, .int .u16 n] w fun e w' => e = .returned (.tuple #[.int .u16 0, .int .i64 1]) ∧ w' = w := by
  go_enter Tryd.func9, Tryd.ntmps9
  go_wp2_with fail
  exact bodyPost_ret (v := .tuple #[.int .u16 0, .int .i64 1]) (by simp [results, Tryd.results9, go_sem]) rfl ⟨rfl, rfl⟩
theorem pair_nil (n : Int) (w : World) : Calls Tryd.prog 14 #[.pointer none, .int .u16 n] w fun e w' => e = .returned (.tuple #[.int .u16 0, .int .i64 1]) ∧ w' = w := by
  go_enter Tryd.func14, Tryd.ntmps14
  go_wp2_with fail
  exact bodyPost_ret (v := .tuple #[.int .u16 0, .int .i64 1]) (by simp [results, Tryd.results14, go_sem]) rfl ⟨rfl, rfl⟩
theorem give_nil (n : Int) (w : World) : Calls Tryd.prog 15 #[.pointer none, .int .u16 n] w fun e w' => e = .returned (.int .i64 1) ∧ w' = w := by
  go_enter Tryd.func15, Tryd.ntmps15
  go_wp2_with fail
  go_ret
  exact ⟨rfl, rfl⟩
theorem has_nil (n : Int) (w : World) : Calls Tryd.prog 10 #[.pointer none, .int .u16 n] w fun e w' => e = .returned (.bool false) ∧ Later w w' := by
  go_enter Tryd.func10, Tryd.ntmps10
  go_wp2_with fail
  go_ret
  exact ⟨rfl, Later.refl _⟩
theorem free_nil (w : World) : Calls Tryd.prog 8 #[.pointer none] w fun e w' => e = .returned (.int .i64 0) ∧ w' = w := by
  go_enter Tryd.func8, Tryd.ntmps8
  go_wp2_with fail
  go_ret
  exact ⟨rfl, rfl⟩
theorem fork_nil (w : World) : Calls Tryd.prog 13 #[.pointer none] w fun e w' => e = .returned (.pointer none) ∧ w' = w := by
  go_enter Tryd.func13, Tryd.ntmps13
  go_wp2_with fail
  go_ret
  exact ⟨rfl, rfl⟩
theorem used_nil (w : World) : Calls Tryd.prog 12 #[.pointer none] w fun e w' => e = .returned (.slice none 0 0) ∧ Later w w' := by
  refine (callsIn_wide (n := 5)).1 ?_
  refine callsIn_of_wp_marks Tryd.func12 rfl trivial ?_ rfl
  simp only [Tryd.ntmps12, List.size_toArray, List.length_cons, List.length_nil, Nat.reduceAdd, Nat.reduceSub, Array.replicate_succ, Array.replicate_zero, List.push_toArray, List.append_toArray, List.nil_append, List.cons_append]
  gi_wp2
  exact ⟨.slice none 0 0, by simp [results, Tryd.results12, go_sem], rfl, (Below.refl _ _).alloc (Nat.le_refl _) _⟩
theorem new8_no (low high : Int) (h : low = 0 ∨ high < low) (w : World) : Calls Tryd.prog 16 #[.int .u16 low, .int .u16 high] w fun e w' => e = .returned (.pointer none) ∧ w' = w := by
  refine (callsIn_wide (n := 5)).1 ?_
  refine callsIn_of_wp_marks Tryd.func16 rfl trivial ?_ rfl
  simp only [Tryd.ntmps16, List.size_toArray, List.length_cons, List.length_nil, Nat.reduceAdd, Nat.reduceSub, Array.replicate_succ, Array.replicate_zero, List.push_toArray, List.append_toArray, List.nil_append, List.cons_append]
  by_cases h0 : low = 0
  · subst h0
    gi_wp2
    exact ⟨.pointer none, by simp [results, Tryd.results16, go_sem], rfl, rfl⟩
  · have h1 : high < low := by omega
    clear h
    gi_wp2
    exact ⟨.pointer none, by simp [results, Tryd.results16, go_sem], rfl, rfl⟩

set_option maxHeartbeats 4000000 in
theorem live8_any (w : World) (hz : Dz w) : Calls Tryd.prog 11 #[] w fun e w' => e = .returned (.bool true) ∧ Below w.heap.size w w' := by
  have hzp := hz.pos
  have f0 : ∀ m, fr (wsOf (nums 5 8)) m = decide (5 ≤ m ∧ m ≤ 8) := fun m => by rw [fr_wsOf, decide_eq_decide, mem_nums (by omega)]
  have n0 : cnt (wsOf (nums 5 8)) 1024 = 4 := by rw [cnt_interval (by omega) (by omega) f0]
  have HNEW := hide (new8_yes 5 8 (by omega) (by omega) (by omega) w)
  generalize wsOf (nums 5 8) = ws0 at *
  have f1 : ∀ m, fr (wsR ws0 7) m = decide (m = 5 ∨ m = 6 ∨ m = 8) := fun m => by rw [fr_wsR, f0, Bool.eq_iff_iff]; simp; omega
  have n1 := cnt_remove ws0 7 (by omega) (by rw [f0]; rfl)
  have F0 := hide f0
  generalize hw1 : wsR ws0 7 = ws1 at *
  have n2 := cnt_remove ws1 5 (by omega) (by rw [f1]; rfl)
  have HC : Hid (cnt (wsR ws1 5) 1024 = 2) := by show _ = _; omega
  have HP : Hid (∀ m, m < 65536 → prs ws1 m = false) := fun m _ => by unfold prs; rw [f1, f1, Bool.eq_false_iff]; simp; omega
  have F1 := hide f1
  have HW1 := hide hw1
  clear f0 f1 n0 n1 n2 hw1
  generalize hB : w.heap.size = B at *
  go_enter Tryd.func11, Tryd.ntmps11
  go_wp2_with fail
  refine HNEW.out.mono ?_
  rintro e w1 ⟨rfl, l1, hT1⟩
  have lb1 : Below B w w1 := by rw [← hB]; exact l1
  clear l1
  go_wp2_with fail
  refine (take_wish B B 5 8 ws0 7 w1 hT1 (hz.below lb1 hzp) (by omega) (by rw [F0.out]; rfl)).mono ?_
  rintro e w2 ⟨rfl, hT2, hb2⟩
  rw [HW1.out] at hT2
  have lb2 : Below B w w2 := lb1.trans (hb2.below (by have := lb1.size; omega) (fun g hg e => by omega))
  go_wp2_with fail
  refine (pair_none B B 5 8 ws1 5 w2 hT2 (hz.below lb2 hzp) (by omega) HP.out).mono ?_
  rintro e w3 ⟨rfl, hT3, hb3⟩
  have lb3 : Below B w w3 := lb2.trans (hb3.below (by have := lb2.size; omega) (fun g hg e => by omega))
  go_wp2_with fail
  refine (take_least B B 5 8 ws1 7 5 w3 hT3 (hz.below lb3 hzp) (by omega) (by rw [F1.out]; rfl) (by omega) (by rw [F1.out]; rfl) (fun m hm => by rw [F1.out]; simp; omega)).mono ?_
  rintro e w4 ⟨rfl, hT4, hb4⟩
  have lb4 : Below B w w4 := lb3.trans (hb4.below (by have := lb3.size; omega) (fun g hg e => by omega))
  go_wp2_with fail
  refine (free8_any B B 5 8 (wsR ws1 5) 2 HC.out w4 hT4).mono ?_
  rintro e w5 ⟨rfl, rfl⟩
  go_wp2_with fail
  go_ret
  exact ⟨rfl, lb4⟩

set_option maxHeartbeats 4000000 in
theorem walk_PoolNone (w : World) (hz : Dz w) (low : Int) (hl : 0 ≤ low ∧ low ≤ 65535) (high : Int) (hh : 0 ≤ high ∧ high ≤ 65535) :
    Calls Tryd.prog 5 #[.int .u16 low, .int .u16 high] w fun e w' => e = .returned (.bool true) ∧ Below w.heap.size w w' := by
  go_enter Tryd.func5, Tryd.ntmps5
  go_wp2_with fail
  refine (take_nil low w).mono ?_
  rintro e w1 ⟨rfl, rfl⟩
  go_wp2_with fail
  refine (pair_nil low w1).mono ?_
  rintro e w2 ⟨rfl, rfl⟩
  go_wp2_with fail
  refine (live8_any w2 hz).mono ?_
  rintro e w3 ⟨rfl, l3⟩
  go_wp2_with fail
  refine (give_nil low w3).mono ?_
  rintro e w4 ⟨rfl, rfl⟩
  go_wp2_with fail
  refine (has_nil low w4).mono ?_
  rintro e w5 ⟨rfl, l5⟩
  have m5 : Later w2 w5 := Later.trans l3 l5
  go_wp2_with fail
  refine (used_nil w5).mono ?_
  rintro e w6 ⟨rfl, l6⟩
  have m6 := m5.trans l6
  go_wp2_with fail
  refine (free_nil w6).mono ?_
  rintro e w7 ⟨rfl, rfl⟩
  go_wp2_with fail
  refine (fork_nil w7).mono ?_
  rintro e w8 ⟨rfl, rfl⟩
  go_wp2_with fail
  by_cases hno : low = 0 ∨ high < low
  · refine (new8_no low high hno w8).mono ?_
    rintro e w9 ⟨rfl, rfl⟩
    by_cases h0 : low = 0
    · subst h0
      go_wp2_with fail
      go_ret
      exact ⟨rfl, m6⟩
    · have h1 : high < low := by omega
      clear hno
      go_wp2_with fail
      go_ret
      exact ⟨rfl, m6⟩
  · have h0 : ¬ low = 0 := by omega
    have h1 : ¬ high < low := by omega
    clear hno
    have HN := hide (new8_yes low.toNat high.toNat (by omega) (by omega) (by omega) w8)
    rw [show ((low.toNat : Nat) : Int) = low from by omega, show ((high.toNat : Nat) : Int) = high from by omega] at HN
    refine HN.out.mono ?_
    rintro e w9 ⟨rfl, l9, _⟩
    have m9 := m6.trans l9
    clear HN
    go_wp2_with fail
    go_ret
    exact ⟨by first | rfl | (simp; omega), m9⟩
end Go.Proofs.YtfompbpllndmfaaDoor
