/- Several texts in one. -/
import Derived.Test.YtfompbpllndmfaaDoorX2
import Derived.Deep.MidRow
import Derived.Laws.Tables
import Derived.Test.YtfompbpllndmfaaDoorPK
import Derived.Test.YtfompbpllndmfaaDoorPR
import Derived.Test.YtfompbpllndmfaaDoorOpE
/- Package pool: what nil answers, the law's live, the walk of PoolNone. -/
namespace Go.Proofs.YtfompbpllndmfaaDoor
open Go.RowKit Go.Shelf
set_option maxRecDepth 100000
set_option linter.unusedVariables false
set_option linter.unusedSimpArgs false

theorem fr_wsR (ws : Nat → Nat) (n m : Nat) : fr (wsR ws n) m = (fr ws m && !decide (m = n)) := fr_remove ws n m
theorem fr_wsA (ws : Nat → Nat) (n m : Nat) : fr (wsA ws n) m = (fr ws m || decide (m = n)) := fr_add ws n m

theorem els_congr {ws ws' : Nat → Nat} (h : ∀ m, m < 65536 → fr ws m = fr ws' m) : els ws = els ws' := by
  rw [els_eq, els_eq]
  exact List.filter_congr (fun x hx => h x (by simpa using hx))
theorem cnt_els (ws : Nat → Nat) : cnt ws 1024 = (els ws).length := cnt_eq ws 1024
theorem els_remove (ws : Nat → Nat) (n : Nat) : els (wsR ws n) = (els ws).erase n := by
  have hnd : (els ws).Nodup := by rw [els_eq]; exact List.Nodup.sublist List.filter_sublist List.nodup_range
  rw [List.Nodup.erase_eq_filter hnd, els_eq, els_eq, List.filter_filter]
  refine List.filter_congr (fun x hx => ?_)
  rw [fr_wsR, Bool.and_comm]
  congr 1
  first | done | (rw [Bool.eq_iff_iff]; simp)
theorem mem_els {ws : Nat → Nat} {n : Nat} : n ∈ els ws ↔ n < 65536 ∧ fr ws n = true := by rw [els_eq]; simp
theorem cnt_remove (ws : Nat → Nat) (n : Nat) (hn : n < 65536) (h : fr ws n = true) : cnt (wsR ws n) 1024 + 1 = cnt ws 1024 := by
  rw [cnt_els, cnt_els, els_remove]
  have hm : n ∈ els ws := mem_els.2 ⟨hn, h⟩
  have := List.length_erase_of_mem hm
  have := List.length_pos_of_mem hm
  omega
theorem cnt_add (ws : Nat → Nat) (n : Nat) (hn : n < 65536) (h : fr ws n = false) : cnt (wsA ws n) 1024 = cnt ws 1024 + 1 := by
  have h1 := cnt_remove (wsA ws n) n hn (by rw [fr_wsA]; simp)
  have h2 : els (wsR (wsA ws n) n) = els ws := els_congr (fun m _ => by
    rw [fr_wsR, fr_wsA]
    by_cases e : m = n
    · subst e; simp [h]
    · simp [e])
  rw [cnt_els, h2, ← cnt_els] at h1
  exact h1.symm
theorem head_least {p : Nat → Bool} {N a : Nat} (ha : a < N) (hp : p a = true) (hl : ∀ m, m < a → p m = false) : ∃ L, (List.range N).filter p = a :: L := by
  obtain ⟨k, rfl⟩ : ∃ k, N = a + 1 + k := ⟨N - a - 1, by omega⟩
  rw [List.range_add, List.filter_append, List.range_succ, List.filter_append, (List.filter_eq_nil_iff.2 (fun x hx => by rw [hl x (by simpa using hx)]; simp)), List.nil_append]
  simp [hp]

theorem take_wish (base b low high : Nat) (ws : Nat → Nat) (wish : Nat) (w : World) (hT : PB base w b (low : Int) (high : Int) ws) (hz : Dz w) (hw : wish < 65536) (hq : fr ws wish = true) :
    Calls Tryd.prog 9 #[.pointer (some ⟨b, 0, none⟩), .int .u16 (wish : Int)] w fun e w' => e = .returned (.tuple #[.int .u16 (wish : Int), .int .i64 0]) ∧ PB base w' b (low : Int) (high : Int) (wsR ws wish) ∧ But (fun g => g = b) w w' := by
  refine (take8_any base b low high ws wish w hT hw hz).mono ?_
  rintro e w' ⟨rfl, ht, hbt⟩
  rw [hq] at ht ⊢
  have hb : fsb true (els ws) = true := rfl
  rw [tke_t hb]
  rcases ht with ⟨h1, _⟩ | ⟨_, h2⟩
  · cases h1
  · exact ⟨rfl, h2, hbt⟩
theorem take_least (base b low high : Nat) (ws : Nat → Nat) (wish a : Nat) (w : World) (hT : PB base w b (low : Int) (high : Int) ws) (hz : Dz w) (hw : wish < 65536) (hq : fr ws wish = false) (ha : a < 65536) (hfa : fr ws a = true) (hl : ∀ m, m < a → fr ws m = false) :
    Calls Tryd.prog 9 #[.pointer (some ⟨b, 0, none⟩), .int .u16 (wish : Int)] w fun e w' => e = .returned (.tuple #[.int .u16 (a : Int), .int .i64 0]) ∧ PB base w' b (low : Int) (high : Int) (wsR ws a) ∧ But (fun g => g = b) w w' := by
  obtain ⟨L, hL⟩ := head_least ha hfa hl
  rw [← els_eq] at hL
  have hn : fsn false wish (els ws) = a := by unfold fsn; rw [hL]; simp
  have hb : fsb false (els ws) = true := by unfold fsb; rw [hL]; simp
  refine (take8_any base b low high ws wish w hT hw hz).mono ?_
  rintro e w' ⟨rfl, ht, hbt⟩
  rw [hq] at ht ⊢
  rw [hn] at ht ⊢
  rw [tke_t hb]
  rcases ht with ⟨h1, _⟩ | ⟨_, h2⟩
  · rw [hb] at h1; cases h1
  · exact ⟨rfl, h2, hbt⟩
theorem pair_none (base b low high : Nat) (ws : Nat → Nat) (wish : Nat) (w : World) (hT : PB base w b (low : Int) (high : Int) ws) (hz : Dz w) (hw : wish < 65536) (h : ∀ m, m < 65536 → prs ws m = false) :
    Calls Tryd.prog 14 #[.pointer (some ⟨b, 0, none⟩), .int .u16 (wish : Int)] w fun e w' => e = .returned (.tuple #[.int .u16 0, .int .i64 9]) ∧ PB base w' b (low : Int) (high : Int) ws ∧ But (fun g => g = b) w w' := by
  have hL : prl ws (els ws) = [] := List.filter_eq_nil_iff.2 (fun x hx => by rw [h x (els_lt hx)]; simp)
  have hn : fsn false wish (prl ws (els ws)) = 0 := by unfold fsn; rw [hL]; rfl
  have hb : fsb false (prl ws (els ws)) = false := by unfold fsb; rw [hL]; rfl
  refine (pair8_any base b low high ws wish w hT hw hz).mono ?_
  rintro e w' ⟨rfl, ht, hbt⟩
  rw [h wish hw] at ht ⊢
  rw [hn] at ht ⊢
  rw [tke_f hb]
  rcases ht with ⟨_, h2⟩ | ⟨h1, _⟩
  · exact ⟨rfl, h2, hbt⟩
  · rw [hb] at h1; cases h1

theorem take_nil (n : Int) (w : World) : Calls Tryd.prog 9 #[.pointer none, .int .u16 n] w fun e w' => e = .returned (.tuple #[.int .u16 0, .int .i64 1]) ∧ w' = w := by
  go_enter Tryd.func9, Tryd.ntmps9
  go_wp2_with fail
  exact bodyPost_ret (v := .tuple #[.int .u16 0, .int .i64 1]) (by simp [results, Tryd.results9, go_sem]) rfl ⟨rfl, rfl⟩
theorem pair_nil (n : Int) (w : World) : Calls Tryd.prog 14 #[.pointer none, .int .u16 n] w fun e w' => e = .returned (.tuple #[.int .u16 0, .int .i64 1]) ∧ w' = w := by
  go_enter Tryd.func14, Tryd.ntmps14
  go_wp2_with fail
  exact bodyPost_ret (v := .tuple #[.int .u16 0, .int .i64 1]) (by simp [results, Tryd.results14, go_sem]) rfl ⟨rfl, rfl⟩
theorem give_nil (n : Int) (w : World) : Calls Tryd.prog 15 #[.pointer none, .int .u16 n] w fun e w' => e = .returned (.int .i64 1) ∧ w' = w := by
  go_enter Tryd.func15, Tryd.ntmps15
  go_wp2_with fail
  go_ret
  exact ⟨rfl, rfl⟩
theorem has_nil (n : Int) (w : World) : Calls Tryd.prog 10 #[.pointer none, .int .u16 n] w fun e w' => e = .returned (.bool false) ∧ Later w w' := by
  go_enter Tryd.func10, Tryd.ntmps10
  go_wp2_with fail
  go_ret
  exact ⟨rfl, Later.refl _⟩
theorem free_nil (w : World) : Calls Tryd.prog 8 #[.pointer none] w fun e w' => e = .returned (.int .i64 0) ∧ w' = w := by
  go_enter Tryd.func8, Tryd.ntmps8
  go_wp2_with fail
  go_ret
  exact ⟨rfl, rfl⟩
theorem fork_nil (w : World) : Calls Tryd.prog 13 #[.pointer none] w fun e w' => e = .returned (.pointer none) ∧ w' = w := by
  go_enter Tryd.func13, Tryd.ntmps13
  go_wp2_with fail
  go_ret
  exact ⟨rfl, rfl⟩
theorem used_nil (w : World) : Calls Tryd.prog 12 #[.pointer none] w fun e w' => e = .returned (.slice none 0 0) ∧ Later w w' := by
  refine (callsIn_wide (n := 5)).1 ?_
  refine callsIn_of_wp_marks Tryd.func12 rfl trivial ?_ rfl
  simp only [Tryd.ntmps12, List.size_toArray, List.length_cons, List.length_nil, Nat.reduceAdd, Nat.reduceSub, Array.replicate_succ, Array.replicate_zero, List.push_toArray, List.append_toArray, List.nil_append, List.cons_append]
  gi_wp2
  exact ⟨.slice none 0 0, by simp [results, Tryd.results12, go_sem], rfl, (Below.refl _ _).alloc (Nat.le_refl _) _⟩
theorem new8_no (low high : Int) (h : low = 0 ∨ high < low) (w : World) : Calls Tryd.prog 16 #[.int .u16 low, .int .u16 high] w fun e w' => e = .returned (.pointer none) ∧ w' = w := by
  refine (callsIn_wide (n := 5)).1 ?_
  refine callsIn_of_wp_marks Tryd.func16 rfl trivial ?_ rfl
  simp only [Tryd.ntmps16, List.size_toArray, List.length_cons, List.length_nil, Nat.reduceAdd, Nat.reduceSub, Array.replicate_succ, Array.replicate_zero, List.push_toArray, List.append_toArray, List.nil_append, List.cons_append]
  by_cases h0 : low = 0
  · subst h0
    gi_wp2
    exact ⟨.pointer none, by simp [results, Tryd.results16, go_sem], rfl, rfl⟩
  · have h1 : high < low := by omega
    clear h
    gi_wp2
    exact ⟨.pointer none, by simp [results, Tryd.results16, go_sem], rfl, rfl⟩

set_option maxHeartbeats 4000000 in
theorem live8_any (w : World) (hz : Dz w) : Calls Tryd.prog 11 #[] w fun e w' => e = .returned (.bool true) ∧ Below w.heap.size w w' := by
  have hzp := hz.pos
  have f0 : ∀ m, fr (wsOf (nums 5 8)) m = decide (5 ≤ m ∧ m ≤ 8) := fun m => by rw [fr_wsOf, decide_eq_decide, mem_nums (by omega)]
  have n0 : cnt (wsOf (nums 5 8)) 1024 = 4 := by rw [cnt_interval (by omega) (by omega) f0]
  have HNEW := hide (new8_yes 5 8 (by omega) (by omega) (by omega) w)
  generalize wsOf (nums 5 8) = ws0 at *
  have f1 : ∀ m, fr (wsR ws0 7) m = decide (m = 5 ∨ m = 6 ∨ m = 8) := fun m => by rw [fr_wsR, f0, Bool.eq_iff_iff]; simp; omega
  have n1 := cnt_remove ws0 7 (by omega) (by rw [f0]; rfl)
  have F0 := hide f0
  generalize hw1 : wsR ws0 7 = ws1 at *
  have n2 := cnt_remove ws1 5 (by omega) (by rw [f1]; rfl)
  have HC : Hid (cnt (wsR ws1 5) 1024 = 2) := by show _ = _; omega
  have HP : Hid (∀ m, m < 65536 → prs ws1 m = false) := fun m _ => by unfold prs; rw [f1, f1, Bool.eq_false_iff]; simp; omega
  have F1 := hide f1
  have HW1 := hide hw1
  clear f0 f1 n0 n1 n2 hw1
  generalize hB : w.heap.size = B at *
  go_enter Tryd.func11, Tryd.ntmps11
  go_wp2_with fail
  refine HNEW.out.mono ?_
  rintro e w1 ⟨rfl, l1, hT1⟩
  have lb1 : Below B w w1 := by rw [← hB]; exact l1
  clear l1
  go_wp2_with fail
  refine (take_wish B B 5 8 ws0 7 w1 hT1 (hz.below lb1 hzp) (by omega) (by rw [F0.out]; rfl)).mono ?_
  rintro e w2 ⟨rfl, hT2, hb2⟩
  rw [HW1.out] at hT2
  have lb2 : Below B w w2 := lb1.trans (hb2.below (by have := lb1.size; omega) (fun g hg e => by omega))
  go_wp2_with fail
  refine (pair_none B B 5 8 ws1 5 w2 hT2 (hz.below lb2 hzp) (by omega) HP.out).mono ?_
  rintro e w3 ⟨rfl, hT3, hb3⟩
  have lb3 : Below B w w3 := lb2.trans (hb3.below (by have := lb2.size; omega) (fun g hg e => by omega))
  go_wp2_with fail
  refine (take_least B B 5 8 ws1 7 5 w3 hT3 (hz.below lb3 hzp) (by omega) (by rw [F1.out]; rfl) (by omega) (by rw [F1.out]; rfl) (fun m hm => by rw [F1.out]; simp; omega)).mono ?_
  rintro e w4 ⟨rfl, hT4, hb4⟩
  have lb4 : Below B w w4 := lb3.trans (hb4.below (by have := lb3.size; omega) (fun g hg e => by omega))
  go_wp2_with fail
  refine (free8_any B B 5 8 (wsR ws1 5) 2 HC.out w4 hT4).mono ?_
  rintro e w5 ⟨rfl, rfl⟩
  go_wp2_with fail
  go_ret
  exact ⟨rfl, lb4⟩

set_option maxHeartbeats 4000000 in
theorem walk_PoolNone (w : World) (hz : Dz w) (low : Int) (hl : 0 ≤ low ∧ low ≤ 65535) (high : Int) (hh : 0 ≤ high ∧ high ≤ 65535) :
    Calls Tryd.prog 5 #[.int .u16 low, .int .u16 high] w fun e w' => e = .returned (.bool true) ∧ Below w.heap.size w w' := by
  go_enter Tryd.func5, Tryd.ntmps5
  go_wp2_with fail
  refine (take_nil low w).mono ?_
  rintro e w1 ⟨rfl, rfl⟩
  go_wp2_with fail
  refine (pair_nil low w1).mono ?_
  rintro e w2 ⟨rfl, rfl⟩
  go_wp2_with fail
  refine (live8_any w2 hz).mono ?_
  rintro e w3 ⟨rfl, l3⟩
  go_wp2_with fail
  refine (give_nil low w3).mono ?_
  rintro e w4 ⟨rfl, rfl⟩
  go_wp2_with fail
  refine (has_nil low w4).mono ?_
  rintro e w5 ⟨rfl, l5⟩
  have m5 : Later w2 w5 := Later.trans l3 l5
  go_wp2_with fail
  refine (used_nil w5).mono ?_
  rintro e w6 ⟨rfl, l6⟩
  have m6 := m5.trans l6
  go_wp2_with fail
  refine (free_nil w6).mono ?_
  rintro e w7 ⟨rfl, rfl⟩
  go_wp2_with fail
  refine (fork_nil w7).mono ?_
  rintro e w8 ⟨rfl, rfl⟩
  go_wp2_with fail
  by_cases hno : low = 0 ∨ high < low
  · refine (new8_no low high hno w8).mono ?_
    rintro e w9 ⟨rfl, rfl⟩
    by_cases h0 : low = 0
    · subst h0
      go_wp2_with fail
      go_ret
      exact ⟨rfl, m6⟩
    · have h1 : high < low := by omega
      clear hno
      go_wp2_with fail
      go_ret
      exact ⟨rfl, m6⟩
  · have h0 : ¬ low = 0 := by omega
    have h1 : ¬ high < low := by omega
    clear hno
    have HN := hide (new8_yes low.toNat high.toNat (by omega) (by omega) (by omega) w8)
    rw [show ((low.toNat : Nat) : Int) = low from by omega, show ((high.toNat : Nat) : Int) = high from by omega] at HN
    refine HN.out.mono ?_
    rintro e w9 ⟨rfl, l9, _⟩
    have m9 := m6.trans l9
    clear HN
    go_wp2_with fail
    go_ret
    exact ⟨by first | rfl | (simp; omega), m9⟩
end Go.Proofs.YtfompbpllndmfaaDoor

/- Package pool: Fork. -/
namespace Go.Proofs.YtfompbpllndmfaaDoor
open Go.RowKit Go.Shelf
set_option maxRecDepth 100000
set_option linter.unusedVariables false
set_option linter.unusedSimpArgs false

theorem setRow_but (W : World) (g : Nat) (cs : Array Value) : But (fun i => i = g) W (W.setRow g cs) := by
  refine ⟨rfl, rfl, rfl, ?_, fun i hi he => ?_⟩
  · unfold World.setRow
    simp
  · unfold World.setRow
    simp only
    rw [Array.getElem?_modify, if_neg (fun e => he e.symm)]
theorem info_pool : (Tryd.prog.info? 52).map (·.size) = some 1026 := by kernel_rfl

/-- What a new pool holds. -/
@[irreducible] def zcp : Array Value := (Value.int .u16 0 :: .int .u16 0 :: List.replicate 1024 (.int .u64 0)).toArray
theorem zcp_size : zcp.size = 1026 := by unfold zcp; simp
theorem zcp_ne : ¬ zcp = #[] := fun h => by have := zcp_size; rw [h] at this; simp at this
theorem zv_pool (w : World) : (zeroValue 52).run Tryd.prog w = .ok (.agg zcp) w := by
  unfold zcp
  kernel_rfl
attribute [local go_sem] zv_pool zcp_ne

set_option maxHeartbeats 2000000 in
theorem fork8_any (base b : Nat) (low high : Int) (ws : Nat → Nat) (w : World) (hT : PB base w b low high ws) :
    Calls Tryd.prog 13 #[.pointer (some ⟨b, 0, none⟩)] w fun e w' => Later w w' ∧ e = .returned (.pointer (some ⟨w.heap.size, 0, none⟩)) ∧ PB w.heap.size w' w.heap.size low high ws := by
  obtain ⟨h1, h2, h3⟩ := hT
  have hra : w.rangeAt b 0 (pcl low high ws) := fun j v hj => by rw [Nat.zero_add, block_cell h3, List.getElem?_toArray]; exact hj
  have hone : ∀ v ∈ pcl low high ws, v.oneCell' = true := by
    intro v hm
    unfold pcl at hm
    rcases List.mem_cons.1 hm with rfl | hm
    · rfl
    · rcases List.mem_cons.1 hm with rfl | hm
      · rfl
      · obtain ⟨i, _, rfl⟩ := List.mem_map.1 hm
        rfl
  have hln : (pcl low high ws).length = 1026 := by unfold pcl; simp
  have la : Later w (w.alloc (.cells zcp 52)) := (Below.refl _ _).alloc (Nat.le_refl _) _
  have z0 := heap_alloc_new w (.cells zcp 52)
  have hzs : zcp.size = 1026 := zcp_size
  have HRA := hide hra
  have HONE := hide (all_oneCell_toArray hone)
  have HSR := hide (setRow_heap (w.alloc (.cells zcp 52)) w.heap.size _ (pcl low high ws).toArray 52 (0, 0) z0)
  have HSB := hide (setRow_but (w.alloc (.cells zcp 52)) w.heap.size (pcl low high ws).toArray)
  have HZS := hide hzs
  have Z0 := hide z0
  have H2 := hide h2
  clear hra hone hzs z0 h1 h2 h3
  generalize hcs : pcl low high ws = cs at *
  have HCS := hide hcs
  clear hcs
  go_enter Tryd.func13, Tryd.ntmps13
  go_wp2_with (first | (refine wpList_load_mid rfl 52 (.tmp 7) rfl b 0 rfl cs _ HRA.out Tryd.underlying52 rfl (by rw [info_pool]; simp [hln]) ?_) | (refine wpList_store_row rfl 52 (.tmp 3) (.tmp 8) rfl w.heap.size cs.toArray rfl rfl 52 _ Z0.out (by rw [info_pool]; simp [hln]) (by rw [HZS.out]; simp [hln]) HONE.out ?_))
  have hb1 := Below.trans la (HSB.out.below la.size (fun x hx e => by omega))
  have h1 := HSR.out
  generalize World.setRow _ _ _ = w1 at *
  go_ret
  exact ⟨hb1, rfl, Nat.le_refl _, H2.out, by rw [HCS.out]; exact h1⟩
end Go.Proofs.YtfompbpllndmfaaDoor

/- Package pool: appends of 16 bits, Take in two cases, how many are taken; the document's New; play without deeds. -/
namespace Go.Proofs.YtfompbpllndmfaaDoor
open Go.RowKit Go.Shelf
set_option maxRecDepth 100000
set_option linter.unusedVariables false
set_option linter.unusedSimpArgs false

theorem wpList_app16 {ops : Array Oper} {rest : List Oper} {o : Oper} {a : Act} {Q : Exit → Act → World → Prop} {W : World} (hgd : o.guard = none) (s y : Operand)
    (ho : o.op = .call { callee := .builtin .append, args := #[s, y], argTypes := #[23, 23] }) (base : Nat) (v : Value) (M : List Nat) (x : Nat)
    (hs : a.eval s = v) (hy : a.eval y = .slice (some ⟨W.heap.size, 0, none⟩) 1 1) (hown : W.ownsRow base 22 1 v M.length (u16s M)) (hb : base ≤ W.heap.size) (hM : M.length ≤ 100000)
    (h : ∀ g cp W2, W2.ownsRow base 22 1 (.slice (some ⟨g, 0, none⟩) (M.length + 1) cp) (M ++ [x]).length (u16s (M ++ [x])) → Below base W W2 → wpList Tryd.prog ops Q rest (a.put o.dst (.slice (some ⟨g, 0, none⟩) (M.length + 1) cp)) W2) :
    wpList Tryd.prog ops Q (o :: rest) a (W.alloc (.cells #[.int .u16 (x : Int)] 22)) := by
  obtain ⟨i0, hi0, hz0, hz1, hz2⟩ := info_parts info_u16
  have la : Later W (W.alloc (.cells #[.int .u16 (x : Int)] 22)) := (Below.refl _ _).alloc (Nat.le_refl _) _
  have hownA := ownsN_ct hown (CT.of la)
  refine wpList_append_own _ hgd s y 23 ho base 22 i0 (.int .u16 0) 1 2 Tryd.underlying23 hi0 hz0 hz1 hz2 rfl (by decide) v M.length (u16s M) hs hownA ⟨W.heap.size, 0, none⟩ 1 1 [.int .u16 (x : Int)] hy rfl (new_u16 W [.int .u16 (x : Int)]) (by intro u hu; simp at hu; subst hu; rfl) (by unfold maxLen; omega) (by omega) (by have := la.size; omega) ?_
  intro v2 W2 hrow hg _
  obtain ⟨g2, cp2, rfl⟩ := ownsRow_succ hrow
  refine h g2 cp2 W2 ?_ ?_
  · rw [u16s_snoc, List.length_append, List.length_singleton]
    exact hrow
  · refine (la.mono hb).trans ⟨hg.os, hg.tape, hg.output, hg.size, fun i hi => hg.block i (by have := la.size; omega) (fun e => ?_)⟩
    have := (hown.lt i e.symm).1
    omega

theorem ownsN_but {E : Nat → Prop} {t : TypeId} {sz base : Nat} {A B : World} {v : Value} {n : Nat} {xs : List Value} (h : A.ownsRow base t sz v n xs) (k : But E A B) (hE : ∀ g, base ≤ g → ¬ E g) : B.ownsRow base t sz v n xs := by
  obtain ⟨h1, h2 | ⟨g, cap, cur, hv, hg, hh, r⟩⟩ := h
  · exact ⟨h1, .inl h2⟩
  · exact ⟨h1, .inr ⟨g, cap, cur, hv, hg, (k.block g (Array.getElem?_eq_some_iff.1 hh).1 (hE g hg)).trans hh, r⟩⟩
theorem ownsN_cell {base : Nat} {A : World} {xs : List Nat} {sa : Option Addr} {n cap : Nat} (h : A.ownsRow base 22 1 (.slice sa n cap) xs.length (u16s xs)) (hne : 0 < xs.length) : ∃ g, sa = some ⟨g, 0, none⟩ ∧ xs.length ≤ cap ∧ cap ≤ maxLen ∧ ∀ j, j < xs.length → A.cell? ⟨g, j, none⟩ = some (.int .u16 ((xs[j]?.getD 0 : Nat) : Int)) := by
  obtain ⟨h1, ⟨e, h0⟩ | ⟨g, cp, cur, e, hg, hh, hl, hm, hs, hc⟩⟩ := h
  · omega
  · cases e
    refine ⟨g, rfl, hl, hm, fun j hj => ?_⟩
    rw [block_cell hh j]
    have : cur.toList[j]? = (u16s xs)[j]? := by rw [← hc, List.getElem?_take_of_lt (by omega)]
    rw [← Array.getElem?_toList, this]
    unfold u16s
    rw [List.getElem?_map, List.getElem?_eq_getElem hj]
    rfl

/-- Take, in two cases: one is given that was free, or there is none. -/
def tk2 (base : Nat) (w : World) (b low high : Nat) (ws : Nat → Nat) (e : Ending) (w' : World) : Prop :=
  (∃ n, n < 65536 ∧ fr ws n = true ∧ e = .returned (.tuple #[.int .u16 (n : Int), .int .i64 0]) ∧ PB base w' b (low : Int) (high : Int) (wsR ws n) ∧ But (fun g => g = b) w w') ∨ ((∀ m, m < 65536 → fr ws m = false) ∧ e = .returned (.tuple #[.int .u16 0, .int .i64 9]) ∧ PB base w' b (low : Int) (high : Int) ws ∧ But (fun g => g = b) w w')
theorem take_two (base b low high : Nat) (ws : Nat → Nat) (wish : Nat) (w : World) (hT : PB base w b (low : Int) (high : Int) ws) (hz : Dz w) (hw : wish < 65536) :
    Calls Tryd.prog 9 #[.pointer (some ⟨b, 0, none⟩), .int .u16 (wish : Int)] w (tk2 base w b low high ws) := by
  refine (take8_any base b low high ws wish w hT hw hz).mono ?_
  rintro e w' ⟨rfl, ht, hbt⟩
  rcases ht with ⟨h1, h2⟩ | ⟨h1, h2⟩
  · right
    rw [tke_f h1]
    unfold fsb at h1
    cases hq : fr ws wish with
    | true => rw [hq] at h1; simp at h1
    | false =>
      rw [hq] at h1
      cases hL : els ws with
      | nil =>
        refine ⟨fun m hm => ?_, rfl, h2, hbt⟩
        cases hf : fr ws m with
        | false => rfl
        | true => have := mem_els.2 ⟨hm, hf⟩; rw [hL] at this; simp at this
      | cons x L => rw [hL] at h1; simp at h1
  · left
    rw [tke_t h1]
    refine ⟨_, ?_, ?_, rfl, h2, hbt⟩
    all_goals
      unfold fsb at h1
      unfold fsn
      cases hq : fr ws wish with
      | true => first | exact hw | exact hq
      | false =>
        rw [hq] at h1
        cases hL : els ws with
        | nil => rw [hL] at h1; simp at h1
        | cons x L =>
          have := mem_els.1 (show x ∈ els ws by rw [hL]; simp)
          simp [this.1, this.2]

theorem usd_len {low high : Nat} {ws : Nat → Nat} (hlh : low ≤ high) (hh : high < 65536) (h : ∀ m, m < 65536 → fr ws m = true → low ≤ m ∧ m ≤ high) : (usd low high ws).length + cnt ws 1024 = high - low + 1 := by
  have e1 : els ws = (nums low high).filter (fr ws) := by
    have : nums low high = (List.range 65536).filter (fun m => decide (low ≤ m ∧ m ≤ high)) := (filter_interval _ 65536 low high hlh hh (fun m _ => rfl)).symm
    rw [this, List.filter_filter, els_eq]
    refine List.filter_congr (fun x hx => ?_)
    have hx' : x < 65536 := by simpa using hx
    cases hf : fr ws x with
    | false => simp
    | true => have := h x hx' hf; simp [this]
  have e2 : usd low high ws = (nums low high).filter (fun m => !fr ws m) := by
    unfold usd usf
    refine List.filter_congr (fun x hx => ?_)
    have := (mem_nums hlh).1 hx
    unfold hsP
    simp [this]
  rw [cnt_els, e1, e2, ← nums_length low high]
  generalize nums low high = L
  induction L with
  | nil => rfl
  | cons x L ih =>
    cases hf : fr ws x with
    | false => simp [hf]; omega
    | true => simp [hf]; omega

theorem rnew8_yes (low high : Nat) (hl1 : 1 ≤ low) (hlh : low ≤ high) (hh : high < 65536) (w : World) :
    Calls Tryd.prog 17 #[.int .u16 (low : Int), .int .u16 (high : Int)] w fun e w' => e = .returned (.pointer (some ⟨w.heap.size, 0, none⟩)) ∧ w' = w.alloc (.cells #[.int .i64 (low : Int), .int .i64 (high : Int), .slice none 0 0] 61) := by
  have h0 : ¬ (low : Int) = 0 := by omega
  have h1 : ¬ (high : Int) < (low : Int) := by omega
  have h2 : 0 ≤ (high : Int) ∧ (high : Int) ≤ 65535 := by omega
  have h3 : 0 ≤ (low : Int) ∧ (low : Int) ≤ 65535 := by omega
  clear hl1 hlh hh
  generalize (low : Int) = lo at *
  generalize (high : Int) = hi at *
  obtain ⟨h4, h5⟩ := h2
  obtain ⟨h6, h7⟩ := h3
  go_enter Tryd.func17, Tryd.ntmps17
  go_wp2_with fail
  go_ret
  exact ⟨rfl, rfl⟩
end Go.Proofs.YtfompbpllndmfaaDoor

/- Package pool: play without deeds. -/
namespace Go.Proofs.YtfompbpllndmfaaDoor
open Go.RowKit Go.Shelf
set_option maxRecDepth 100000
set_option linter.unusedVariables false
set_option linter.unusedSimpArgs false

set_option maxHeartbeats 4000000 in
theorem play_none (lo sz : Nat) (hlo : lo ≤ 65535) (hsz : sz ≤ 65535) (w : World) :
    Calls Tryd.prog 7 #[.int .u16 (lo : Int), .int .u16 (sz : Int), .slice none 0 0] w fun e w' => Later w w' ∧ ∃ lw hg rb : Nat, 1 ≤ lw ∧ lw ≤ hg ∧ hg < 65536 ∧ e = .returned (.tuple #[.pointer (some ⟨w.heap.size, 0, none⟩), .pointer (some ⟨rb, 0, none⟩), .bool true]) ∧ PB w.heap.size w' w.heap.size (lw : Int) (hg : Int) (wsOf (nums lw hg)) := by
  have hlo' : (lo : Int) ≤ 65535 := by omega
  have hsz' : (sz : Int) ≤ 65535 := by omega
  go_enter Tryd.func7, Tryd.ntmps7
  go_upto_region 2 with fail
  obtain ⟨hi, hhi, hhl⟩ : ∃ hi : Nat, IntKind.u16.wrap ((lo : Int) + (sz : Int) % 200) = (hi : Int) ∧ hi ≤ 65535 := by
    refine ⟨(lo + sz % 200) % 65536, ?_, by omega⟩
    have e1 : ∀ z : Int, IntKind.u16.wrap z = z % 65536 := fun z => by simp [IntKind.wrap, IntKind.signed, IntKind.bits]
    rw [e1]
    omega
  rw [hhi]
  generalize (sz : Int) % 200 = q0 at *
  clear hhi hsz hsz'
  have hhl' : (hi : Int) ≤ 65535 := by omega
  have hcase : lo = 0 ∨ (lo ≠ 0 ∧ hi < lo) ∨ (1 ≤ lo ∧ lo ≤ hi) := by omega
  rcases hcase with rfl | ⟨ha, hb⟩ | ⟨h1, h2⟩
  case' inl =>
    go_upto_region 4 with fail
    obtain ⟨lw, hlw, hg, hhg, h1, h2, h3⟩ : ∃ lw : Nat, (10 : Int) = (lw : Int) ∧ ∃ hg : Nat, (20 : Int) = (hg : Int) ∧ 1 ≤ lw ∧ lw ≤ hg ∧ hg ≤ 65535 := ⟨10, rfl, 20, rfl, by omega, by omega, by omega⟩
    rw [show Value.int IntKind.u16 10 = Value.int IntKind.u16 (lw : Int) from by rw [← hlw], show Value.int IntKind.u16 20 = Value.int IntKind.u16 (hg : Int) from by rw [← hhg]]
    clear hlw hhg hhl hhl' hlo hlo'
  case' inr.inl =>
    have ha' : ¬ (lo : Int) = 0 := by omega
    have hb' : (hi : Int) < (lo : Int) := by omega
    go_upto_region 4 with fail
    obtain ⟨lw, hlw, hg, hhg, h1, h2, h3⟩ : ∃ lw : Nat, (10 : Int) = (lw : Int) ∧ ∃ hg : Nat, (20 : Int) = (hg : Int) ∧ 1 ≤ lw ∧ lw ≤ hg ∧ hg ≤ 65535 := ⟨10, rfl, 20, rfl, by omega, by omega, by omega⟩
    rw [show Value.int IntKind.u16 10 = Value.int IntKind.u16 (lw : Int) from by rw [← hlw], show Value.int IntKind.u16 20 = Value.int IntKind.u16 (hg : Int) from by rw [← hhg]]
    clear hlw hhg hhl hhl' ha hb ha' hb' hlo hlo'
  case' inr.inr =>
    have ha' : ¬ (lo : Int) = 0 := by omega
    have hb' : ¬ (hi : Int) < (lo : Int) := by omega
    go_upto_region 4 with fail
    obtain ⟨lw, rfl⟩ : ∃ lw : Nat, lw = lo := ⟨lo, rfl⟩
    obtain ⟨hg, rfl⟩ : ∃ hg : Nat, hg = hi := ⟨hi, rfl⟩
    have h3 := hhl
    clear hhl hhl' ha' hb' hlo hlo'
  all_goals
    have HN := hide (new8_yes lw hg h1 h2 (by omega) w)
    have HR := hide (fun W => rnew8_yes lw hg h1 h2 (by omega) W)
    go_wp2_with fail
    refine HN.out.mono ?_
    rintro e w1 ⟨rfl, l1, hT1⟩
    go_wp2_with fail
    refine (HR.out w1).mono ?_
    rintro e w2 ⟨rfl, hw2⟩
    have l2 : Later w1 w2 := by rw [hw2]; exact (Below.refl _ _).alloc (Nat.le_refl _) _
    have hT2 := hT1.later l2
    have L2 := l1.trans l2
    have H123 := hide (And.intro h1 (And.intro h2 h3))
    clear hw2 HN HR l1 l2 hT1 h1 h2 h3
    go_wp2_with fail
    go_loopw [12] (fun i wr => i = .int .i64 0 ∧ wr = w2) (fun i _ => 0)
    case atStart => exact ⟨rfl, rfl⟩
    case round =>
      obtain ⟨rfl, rfl⟩ := hrel
      go_wp2_with fail
      refine bodyPost_ret (v := .tuple #[.pointer (some ⟨w.heap.size, 0, none⟩), .pointer (some ⟨w1.heap.size, 0, none⟩), .bool true]) (by simp [results, Tryd.results7, go_sem]) rfl ?_
      obtain ⟨h1, h2, h3⟩ := H123.out
      exact ⟨L2, lw, hg, _, h1, h2, by omega, rfl, hT2⟩
end Go.Proofs.YtfompbpllndmfaaDoor

/- Both pools: what is free in the program's is free in the document's. -/
namespace Go.Proofs.YtfompbpllndmfaaDoor
open Go.RowKit Go.Shelf
set_option maxRecDepth 100000
set_option linter.unusedVariables false
set_option linter.unusedSimpArgs false

/-- Both hold the same: what is taken, rising, between the ends. -/
structure R8 (low high : Nat) (ws : Nat → Nat) (U : List Nat) : Prop where
  h1 : 1 ≤ low
  h2 : low ≤ high
  h3 : high < 65536
  fre : ∀ m, m < 65536 → fr ws m = rfr low high U m
  up : U.Pairwise (· < ·)
  inn : ∀ x ∈ U, low ≤ x ∧ x ≤ high
theorem R8.start {low high : Nat} (h1 : 1 ≤ low) (h2 : low ≤ high) (h3 : high < 65536) : R8 low high (wsOf (nums low high)) [] :=
  ⟨h1, h2, h3, fun m _ => by rw [fr_wsOf]; unfold rfr; rw [Bool.eq_iff_iff]; simp [mem_nums h2], List.Pairwise.nil, fun x h => by simp at h⟩
theorem mem_insU (n : Nat) : ∀ (U : List Nat) (x : Nat), x ∈ insU n U ↔ x = n ∨ x ∈ U
  | [], x => by simp [insU]
  | y :: ys, x => by
    unfold insU
    split
    · simp
    · simp [mem_insU n ys x]
      constructor
      · rintro (h | h | h) <;> simp [h]
      · rintro (h | h | h) <;> simp [h]
theorem up_insU (n : Nat) : ∀ (U : List Nat), U.Pairwise (· < ·) → n ∉ U → (insU n U).Pairwise (· < ·)
  | [], _, _ => by simp [insU]
  | y :: ys, h, hn => by
    have h' := List.pairwise_cons.1 h
    unfold insU
    split
    · rename_i hlt
      refine List.pairwise_cons.2 ⟨fun z hz => ?_, h⟩
      rcases List.mem_cons.1 hz with rfl | hz
      · exact hlt
      · exact Nat.lt_trans hlt (h'.1 z hz)
    · rename_i hge
      refine List.pairwise_cons.2 ⟨fun z hz => ?_, up_insU n ys h'.2 (fun hm => hn (by simp [hm]))⟩
      rcases (mem_insU n ys z).1 hz with rfl | hz
      · have : z ≠ y := fun e => hn (by simp [e])
        omega
      · exact h'.1 z hz
theorem R8.take {low high : Nat} {ws : Nat → Nat} {U : List Nat} {n : Nat} (h : R8 low high ws U) (hl : low ≤ n) (hh : n ≤ high) (hn : n ∉ U) : R8 low high (wsR ws n) (insU n U) :=
  ⟨h.h1, h.h2, h.h3, fun m hm => by
    rw [fr_wsR, h.fre m hm]
    unfold rfr
    rw [Bool.eq_iff_iff]
    simp [mem_insU]
    constructor
    · rintro ⟨⟨a, b, c⟩, d⟩; exact ⟨a, b, d, c⟩
    · rintro ⟨a, b, d, c⟩; exact ⟨⟨a, b, c⟩, d⟩, up_insU n U h.up hn, fun x hx => by
    rcases (mem_insU n U x).1 hx with rfl | hx
    · exact ⟨hl, hh⟩
    · exact h.inn x hx⟩
theorem R8.give {low high : Nat} {ws : Nat → Nat} {U : List Nat} {n : Nat} (h : R8 low high ws U) (hn : n ∈ U) : R8 low high (wsA ws n) (outU n U) :=
  ⟨h.h1, h.h2, h.h3, fun m hm => by
    rw [fr_wsA, h.fre m hm]
    have := h.inn n hn
    unfold rfr outU
    rw [Bool.eq_iff_iff]
    by_cases e : m = n
    · subst e; simp; omega
    · simp [e], List.Pairwise.sublist List.filter_sublist h.up, fun x hx => h.inn x (List.mem_filter.1 hx).1⟩
theorem R8.els {low high : Nat} {ws : Nat → Nat} {U : List Nat} (h : R8 low high ws U) : els ws = (nums low high).filter (rfr low high U) := by
  have : nums low high = (List.range 65536).filter (fun m => decide (low ≤ m ∧ m ≤ high)) := (filter_interval _ 65536 low high h.h2 h.h3 (fun m _ => rfl)).symm
  rw [this, List.filter_filter, els_eq]
  refine List.filter_congr (fun x hx => ?_)
  have hx' : x < 65536 := by simpa using hx
  rw [h.fre x hx']
  unfold rfr
  rw [Bool.eq_iff_iff]
  simp
  intro a b c
  exact ⟨a, b⟩
theorem R8.prs {low high : Nat} {ws : Nat → Nat} {U : List Nat} (h : R8 low high ws U) {n : Nat} (hn : n < 65536) : prs ws n = rok low high U true n := by
  unfold Go.Proofs.YtfompbpllndmfaaDoor.prs rok
  rw [h.fre n hn]
  by_cases h2 : n % 2 = 0
  · rw [h.fre (n + 1) (by omega)]
    cases rfr low high U n <;> simp [h2]
  · simp [h2]
theorem R8.prl {low high : Nat} {ws : Nat → Nat} {U : List Nat} (h : R8 low high ws U) : prl ws (Go.Proofs.YtfompbpllndmfaaDoor.els ws) = (nums low high).filter (rok low high U true) := by
  unfold Go.Proofs.YtfompbpllndmfaaDoor.prl
  rw [h.els, List.filter_filter]
  refine List.filter_congr (fun x hx => ?_)
  have hx' := (mem_nums h.h2).1 hx
  rw [h.prs (by have := h.h3; omega)]
  unfold rok
  cases rfr low high U x <;> simp
theorem R8.fsn_take {low high : Nat} {ws : Nat → Nat} {U : List Nat} (h : R8 low high ws U) {wish : Nat} (hw : wish < 65536) : fsn (fr ws wish) wish (Go.Proofs.YtfompbpllndmfaaDoor.els ws) = rtn low high U false wish := by
  unfold fsn rtn lst
  rw [h.els, h.fre wish hw, show (rok low high U false) = rfr low high U from funext (fun n => by unfold rok; simp)]
theorem R8.fsn_pair {low high : Nat} {ws : Nat → Nat} {U : List Nat} (h : R8 low high ws U) {wish : Nat} (hw : wish < 65536) : fsn (Go.Proofs.YtfompbpllndmfaaDoor.prs ws wish) wish (Go.Proofs.YtfompbpllndmfaaDoor.prl ws (Go.Proofs.YtfompbpllndmfaaDoor.els ws)) = rtn low high U true wish := by
  unfold fsn rtn lst
  rw [h.prl, h.prs hw]
end Go.Proofs.YtfompbpllndmfaaDoor

/- Both pools in memory: a call on each side, one behind the other. -/
namespace Go.Proofs.YtfompbpllndmfaaDoor
open Go.RowKit Go.Shelf
set_option maxRecDepth 100000
set_option linter.unusedVariables false
set_option linter.unusedSimpArgs false

theorem up_len : ∀ (U : List Nat) (lo hi : Nat), U.Pairwise (· < ·) → (∀ x ∈ U, lo ≤ x ∧ x ≤ hi) → U.length ≤ hi + 1 - lo
  | [], _, _, _, _ => by simp
  | x :: xs, lo, hi, h, hb => by
    have h' := List.pairwise_cons.1 h
    have hx := hb x (by simp)
    have := up_len xs (x + 1) hi h'.2 (fun y hy => ⟨h'.1 y hy, (hb y (by simp [hy])).2⟩)
    simp
    omega
theorem R8.len {low high : Nat} {ws : Nat → Nat} {U : List Nat} (h : R8 low high ws U) : U.length ≤ 90000 := by
  have := up_len U low high h.up h.inn
  have := h.h3
  omega
theorem fsb_of {low high : Nat} {U : List Nat} {two : Bool} {wish : Nat} (h1 : 1 ≤ low) (h2 : low ≤ high) : fsb (rok low high U two wish) ((nums low high).filter (rok low high U two)) = !decide (rtn low high U two wish = 0) := by
  unfold fsb rtn lst
  cases hq : rok low high U two wish with
  | true => have := rok_range hq; simp; omega
  | false =>
    cases hL : (nums low high).filter (rok low high U two) with
    | nil => simp
    | cons x L =>
      have hx : x ∈ (nums low high).filter (rok low high U two) := by rw [hL]; simp
      have := (mem_nums h2).1 (List.mem_filter.1 hx).1
      simp
      omega
theorem R8.fsb_take {low high : Nat} {ws : Nat → Nat} {U : List Nat} (h : R8 low high ws U) {wish : Nat} (hw : wish < 65536) : fsb (fr ws wish) (Go.Proofs.YtfompbpllndmfaaDoor.els ws) = !decide (rtn low high U false wish = 0) := by
  rw [← fsb_of h.h1 h.h2, h.els, h.fre wish hw, show (rok low high U false) = rfr low high U from funext (fun n => by unfold rok; simp)]
theorem R8.fsb_pair {low high : Nat} {ws : Nat → Nat} {U : List Nat} (h : R8 low high ws U) {wish : Nat} (hw : wish < 65536) : fsb (Go.Proofs.YtfompbpllndmfaaDoor.prs ws wish) (Go.Proofs.YtfompbpllndmfaaDoor.prl ws (Go.Proofs.YtfompbpllndmfaaDoor.els ws)) = !decide (rtn low high U true wish = 0) := by
  rw [← fsb_of h.h1 h.h2, h.prl, h.prs hw]

theorem But.wider {E F : Nat → Prop} {A B : World} (h : But E A B) (hEF : ∀ g, E g → F g) : But F A B := ⟨h.os, h.tape, h.output, h.size, fun k hk he => h.block k hk (fun e => he (hEF k e))⟩
/-- Both pools. -/
def PP8 (b rb low high : Nat) (ws : Nat → Nat) (U : List Nat) (W : World) : Prop := PB b W b (low : Int) (high : Int) ws ∧ (∃ v, DP (b + 1) W rb v low high U) ∧ R8 low high ws U
theorem DP.butb {b rb low high : Nat} {v : Value} {U : List Nat} {A B : World} (h : DP (b + 1) A rb v low high U) (k : But (fun g => g = b) A B) : DP (b + 1) B rb v low high U :=
  ⟨h.1, (k.block rb (Array.getElem?_eq_some_iff.1 h.2.1).1 (by have := h.1; omega)).trans h.2.1, ownsM_but h.2.2 k (fun g hg e => by omega)⟩
theorem PB.butr {b rb : Nat} {low high : Int} {ws : Nat → Nat} {A B : World} (h : PB b A b low high ws) (k : But (fun g => g = rb) A B) (hne : b ≠ rb) : PB b B b low high ws := ⟨h.1, h.2.1, (k.block b (Array.getElem?_eq_some_iff.1 h.2.2).1 hne).trans h.2.2⟩

/-- What both answer, and leave. -/
def both8 (b rb low high : Nat) (W : World) (f : Nat) (wish : Nat) (e : Ending) (W1 : World) : Prop :=
  ∃ (n er : Int), e = .returned (.tuple #[.int .u16 n, .int .i64 er]) ∧ But (fun g => g = b) W W1 ∧ Calls Tryd.prog f #[.pointer (some ⟨rb, 0, none⟩), .int .u16 (wish : Int)] W1 fun e2 W2 => e2 = .returned (.tuple #[.int .u16 n, .int .i64 er]) ∧ (∃ ws' U', PP8 b rb low high ws' U' W2) ∧ But (fun g => g = b ∨ g = rb) W W2

theorem pt8_take (b rb low high : Nat) (ws : Nat → Nat) (U : List Nat) (W : World) (h : PP8 b rb low high ws U W) (hz : Dz W) (wish : Nat) (hw : wish < 65536) :
    Calls Tryd.prog 9 #[.pointer (some ⟨b, 0, none⟩), .int .u16 (wish : Int)] W (both8 b rb low high W 28 wish) := by
  obtain ⟨hP, ⟨v, hD⟩, hR⟩ := h
  have hne : b ≠ rb := by have := hD.1; omega
  refine (take8_any b b low high ws wish W hP hw hz).mono ?_
  rintro e W1 ⟨rfl, ht, hb1⟩
  rw [hR.fsn_take hw] at ht ⊢
  have hD1 := hD.butb hb1
  refine ⟨_, _, rfl, hb1, (rTake8_any (b + 1) rb low high v U wish hR.h1 hR.h2 hR.h3 W1 hD1 hw hR.len).mono ?_⟩
  have hfb := hR.fsb_take hw
  rintro e2 W2 (⟨h0, rfl, rfl⟩ | ⟨h0, rfl, ⟨v2, hD2⟩, hb2⟩)
  · rw [h0] at hfb ⊢
    have hf : fsb (fr ws wish) (els ws) = false := by rw [hfb]; rfl
    rw [tke_f hf]
    rcases ht with ⟨_, hP1⟩ | ⟨hx, _⟩
    · exact ⟨rfl, ⟨ws, U, hP1, ⟨v, hD1⟩, hR⟩, hb1.wider (fun g hg => .inl hg)⟩
    · rw [hf] at hx; cases hx
  · have hf : fsb (fr ws wish) (els ws) = true := by rw [hfb]; simp [h0]
    rw [tke_t hf]
    rcases ht with ⟨hx, _⟩ | ⟨_, hP1⟩
    · rw [hf] at hx; cases hx
    · have hk := rok_range (rtn_rok h0)
      exact ⟨rfl, ⟨_, _, hP1.butr hb2 hne, ⟨v2, hD2⟩, hR.take hk.1 hk.2.1 hk.2.2.1⟩, (hb1.wider (fun g hg => .inl hg)).trans (hb2.wider (fun g hg => .inr hg))⟩

theorem pt8_pair (b rb low high : Nat) (ws : Nat → Nat) (U : List Nat) (W : World) (h : PP8 b rb low high ws U W) (hz : Dz W) (wish : Nat) (hw : wish < 65536) :
    Calls Tryd.prog 14 #[.pointer (some ⟨b, 0, none⟩), .int .u16 (wish : Int)] W (both8 b rb low high W 29 wish) := by
  obtain ⟨hP, ⟨v, hD⟩, hR⟩ := h
  have hne : b ≠ rb := by have := hD.1; omega
  refine (pair8_any b b low high ws wish W hP hw hz).mono ?_
  rintro e W1 ⟨rfl, ht, hb1⟩
  rw [hR.fsn_pair hw] at ht ⊢
  have hD1 := hD.butb hb1
  refine ⟨_, _, rfl, hb1, (rPair8_any (b + 1) rb low high v U wish hR.h1 hR.h2 hR.h3 W1 hD1 hw hR.len).mono ?_⟩
  have hfb := hR.fsb_pair hw
  rintro e2 W2 (⟨h0, rfl, rfl⟩ | ⟨h0, rfl, ⟨v2, hD2⟩, hb2⟩)
  · rw [h0] at hfb ⊢
    have hf : fsb (prs ws wish) (prl ws (els ws)) = false := by rw [hfb]; rfl
    rw [tke_f hf]
    rcases ht with ⟨_, hP1⟩ | ⟨hx, _⟩
    · exact ⟨rfl, ⟨ws, U, hP1, ⟨v, hD1⟩, hR⟩, hb1.wider (fun g hg => .inl hg)⟩
    · rw [hf] at hx; cases hx
  · have hf : fsb (prs ws wish) (prl ws (els ws)) = true := by rw [hfb]; simp [h0]
    rw [tke_t hf]
    rcases ht with ⟨hx, _⟩ | ⟨_, hP1⟩
    · rw [hf] at hx; cases hx
    · have hk := rok_range (rtn_rok h0)
      have hk2 := hk.2.2.2 rfl
      have hR1 := hR.take hk.1 hk.2.1 hk.2.2.1
      have hR2 := hR1.take (n := rtn low high U true wish + 1) (by omega) hk2.2.1 (fun hm => by
        rcases (mem_insU _ U _).1 hm with e | e
        · omega
        · exact hk2.2.2 e)
      exact ⟨rfl, ⟨_, _, hP1.butr hb2 hne, ⟨v2, hD2⟩, hR2⟩, (hb1.wider (fun g hg => .inl hg)).trans (hb2.wider (fun g hg => .inr hg))⟩
end Go.Proofs.YtfompbpllndmfaaDoor

/- Both pools: Give; a deed on both (the law's do). -/
namespace Go.Proofs.YtfompbpllndmfaaDoor
open Go.RowKit Go.Shelf
set_option maxRecDepth 100000
set_option linter.unusedVariables false
set_option linter.unusedSimpArgs false

set_option maxHeartbeats 2000000 in
theorem give_no (base b low high : Nat) (ws : Nat → Nat) (n : Nat) (w : World) (hT : PB base w b (low : Int) (high : Int) ws) (hn : n < 65536) (hh : hsP low high ws n = false) :
    Calls Tryd.prog 15 #[.pointer (some ⟨b, 0, none⟩), .int .u16 (n : Int)] w fun e w' => e = .returned (.int .i64 11) ∧ Later w w' := by
  have HH := hide (hasP_any base b low high ws n w hT hn)
  rw [hh] at HH
  clear hh
  go_enter Tryd.func15, Tryd.ntmps15
  go_wp2_with fail
  refine HH.out.mono ?_
  rintro e w1 ⟨rfl, l1⟩
  go_wp2_with fail
  go_ret
  exact ⟨rfl, l1⟩
theorem R8.has {low high : Nat} {ws : Nat → Nat} {U : List Nat} (h : R8 low high ws U) {n : Nat} (hn : n < 65536) : hsP low high ws n = decide (n ∈ U) := by
  unfold hsP
  rw [h.fre n hn]
  unfold rfr
  rw [Bool.eq_iff_iff]
  simp
  constructor
  · rintro ⟨a, b, c⟩; rcases c with c | c | c <;> first | omega | exact c
  · intro hm; have := h.inn n hm; exact ⟨this.1, this.2, .inr (.inr hm)⟩
theorem pt8_give (b rb low high : Nat) (ws : Nat → Nat) (U : List Nat) (W : World) (h : PP8 b rb low high ws U W) (n : Nat) (hn : n < 65536) :
    Calls Tryd.prog 15 #[.pointer (some ⟨b, 0, none⟩), .int .u16 (n : Int)] W fun e W1 => ∃ er : Int, e = .returned (.int .i64 er) ∧ But (fun g => g = b) W W1 ∧ Calls Tryd.prog 30 #[.pointer (some ⟨rb, 0, none⟩), .int .u16 (n : Int)] W1 fun e2 W2 => e2 = .returned (.int .i64 er) ∧ (∃ ws' U', PP8 b rb low high ws' U' W2) ∧ But (fun g => g = b ∨ g = rb) W W2 ∧ But (fun g => g = b ∨ g = rb) W1 W2 := by
  obtain ⟨hP, ⟨v, hD⟩, hR⟩ := h
  have hne : b ≠ rb := by have := hD.1; omega
  have hhs := hR.has hn
  by_cases hm : n ∈ U
  · rw [decide_eq_true hm] at hhs
    refine (give_yes b b low high ws n W hP hn hhs).mono ?_
    rintro e W1 ⟨rfl, hP1, hb1⟩
    have hD1 := hD.butb hb1
    refine ⟨_, rfl, hb1, (rGive8_any (b + 1) rb low high v U n W1 hD1 hn hR.len).mono ?_⟩
    rintro e2 W2 (⟨h0, rfl, rfl⟩ | ⟨h0, rfl, ⟨v2, hD2⟩, hb2⟩)
    · exact absurd hm h0
    · exact ⟨rfl, ⟨_, _, hP1.butr hb2 hne, ⟨v2, hD2⟩, hR.give hm⟩, (hb1.wider (fun g hg => .inl hg)).trans (hb2.wider (fun g hg => .inr hg)), hb2.wider (fun g hg => .inr hg)⟩
  · rw [decide_eq_false hm] at hhs
    refine (give_no b b low high ws n W hP hn hhs).mono ?_
    rintro e W1 ⟨rfl, l1⟩
    have hb1 : But (fun g => g = b) W W1 := But.of l1
    have hD1 := hD.butb hb1
    refine ⟨_, rfl, hb1, (rGive8_any (b + 1) rb low high v U n W1 hD1 hn hR.len).mono ?_⟩
    rintro e2 W2 (⟨h0, rfl, rfl⟩ | ⟨h0, rfl, ⟨v2, hD2⟩, hb2⟩)
    · exact ⟨rfl, ⟨ws, U, hP.later l1, ⟨v, hD1⟩, hR⟩, But.of l1, But.refl _ _⟩
    · exact absurd h0 hm

theorem PP8.later {b rb low high : Nat} {ws : Nat → Nat} {U : List Nat} {A B : World} (h : PP8 b rb low high ws U A) (l : Later A B) : PP8 b rb low high ws U B := by
  obtain ⟨hP, ⟨v, hD⟩, hR⟩ := h
  exact ⟨hP.later l, ⟨v, hD.later l⟩, hR⟩
theorem PP8.lt {b rb low high : Nat} {ws : Nat → Nat} {U : List Nat} {A : World} (h : PP8 b rb low high ws U A) : b < A.heap.size ∧ rb < A.heap.size := by
  obtain ⟨hP, ⟨v, hD⟩, hR⟩ := h
  exact ⟨hP.lt, (Array.getElem?_eq_some_iff.1 hD.2.1).1⟩

set_option maxHeartbeats 4000000 in
theorem do8_any (b rb low high : Nat) (ws : Nat → Nat) (U : List Nat) (w : World) (h : PP8 b rb low high ws U w) (hz : Dz w) (hzb : 0 < b) (kd : Int) (n : Nat) (hn : n < 65536) :
    Calls Tryd.prog 18 #[.pointer (some ⟨b, 0, none⟩), .pointer (some ⟨rb, 0, none⟩), .agg #[.int .i64 kd, .int .u16 (n : Int)]] w fun e w' => e = .returned (.bool true) ∧ (∃ ws' U', PP8 b rb low high ws' U' w') ∧ But (fun g => g = b ∨ g = rb) w w' := by
  have lb0 : Later w (w.alloc (.cells #[.int .i64 kd, .int .u16 (n : Int)] 38)) := (Below.refl _ _).alloc (Nat.le_refl _) _
  have c0 := heap_alloc_new w (.cells #[.int .i64 kd, .int .u16 (n : Int)] 38)
  have hP0 := h.later lb0
  have hz0 := hz.later lb0
  have hlt := h.lt
  have HTk := hide (fun W (h : PP8 b rb low high ws U W) (hz : Dz W) => pt8_take b rb low high ws U W h hz n hn)
  have HPr := hide (fun W (h : PP8 b rb low high ws U W) (hz : Dz W) => pt8_pair b rb low high ws U W h hz n hn)
  have HGv := hide (fun W (h : PP8 b rb low high ws U W) => pt8_give b rb low high ws U W h n hn)
  have hst : ∀ (A B : World) (o : Obj), A.heap[w.heap.size]? = some o → But (fun g => g = b) A B → B.heap[w.heap.size]? = some o := fun A B o ho k => (k.block _ (Array.getElem?_eq_some_iff.1 ho).1 (by omega)).trans ho
  have HST := hide hst
  clear h hst
  go_enter Tryd.func18, Tryd.ntmps18
  have k0 := block_cell c0
  by_cases hk0 : kd = 0
  · subst hk0
    go_wp2_with fail
    generalize w.alloc _ = w0 at *
    refine (HTk.out w0 hP0 hz0).mono ?_
    rintro e w1 ⟨x, er, rfl, hb1, hc⟩
    have c1 := HST.out _ _ _ c0 hb1
    clear k0
    have k1 := block_cell c1
    go_wp2_with fail
    refine hc.mono ?_
    rintro e w2 ⟨rfl, hP2, hb2⟩
    have hbf : But (fun g => g = b ∨ g = rb) w w2 := (But.of lb0).trans hb2
    go_wp2_with fail
    go_ret
    exact ⟨by first | rfl | simp, hP2, hbf⟩
  · by_cases hk1 : kd = 1
    · subst hk1
      go_wp2_with fail
      generalize w.alloc _ = w0 at *
      refine (HPr.out w0 hP0 hz0).mono ?_
      rintro e w1 ⟨x, er, rfl, hb1, hc⟩
      have c1 := HST.out _ _ _ c0 hb1
      clear k0
      have k1 := block_cell c1
      go_wp2_with fail
      refine hc.mono ?_
      rintro e w2 ⟨rfl, hP2, hb2⟩
      have hbf : But (fun g => g = b ∨ g = rb) w w2 := (But.of lb0).trans hb2
      go_wp2_with fail
      go_ret
      exact ⟨by first | rfl | simp, hP2, hbf⟩
    · by_cases hk2 : kd = 2
      · subst hk2
        go_upto_region 11 with fail
        clear k0
        generalize w.alloc _ = w0 at *
        refine anyT_begin (R := But (fun g => g = b ∨ g = rb)) 10 rfl (by kernel_rfl) ?_
        have ld : Later w0 w0.drew := Later.drew w0
        have cd := later_keep ld c0
        have hPd := hP0.later ld
        have lwd := lb0.trans ld
        clear c0 hP0
        generalize w0.drew = Wd at *
        have ha : ∀ v1, But (fun g => g = b ∨ g = rb) Wd v1 → ∀ j, v1.cell? ⟨w.heap.size, j, none⟩ = #[Value.int .i64 2, .int .u16 (n : Int)][j]? := fun v1 hv => block_cell ((hv.block w.heap.size (Array.getElem?_eq_some_iff.1 cd).1 (fun e => by omega)).trans cd)
        refine anyT_val (But.pre _) 0 rfl (by kernel_rfl) (by kernel_rfl) (by kernel_rfl) (fun _ _ _ _ h => h) rfl ?_; apply Exists.intro; refine ⟨fun v1 hv1 => ?_, ?_⟩; (· (go_simp; rfl)); simp only [Act.put, List.setIfInBounds_toArray, List.set_cons_zero, List.set_cons_succ]
        refine anyT_val (But.pre _) 1 rfl (by kernel_rfl) (by kernel_rfl) (by kernel_rfl) (fun _ _ _ _ h => h) rfl ?_; apply Exists.intro; refine ⟨fun v1 hv1 => ?_, ?_⟩; (· (go_simp; rfl)); simp only [Act.put, List.setIfInBounds_toArray, List.set_cons_zero, List.set_cons_succ]
        refine anyT_val (But.pre _) 2 rfl (by kernel_rfl) (by kernel_rfl) (by kernel_rfl) (fun _ _ _ _ h => h) rfl ?_; apply Exists.intro; refine ⟨fun v1 hv1 => ?_, ?_⟩; (· (go_simp; rfl)); simp only [Act.put, List.setIfInBounds_toArray, List.set_cons_zero, List.set_cons_succ]
        refine anyT_val (But.pre _) 4 rfl (by kernel_rfl) (by kernel_rfl) (by kernel_rfl) (fun _ _ _ _ h => h) rfl ?_; apply Exists.intro; refine ⟨fun v1 hv1 => ?_, ?_⟩; (· (go_simp; rfl)); simp only [Act.put, List.setIfInBounds_toArray, List.set_cons_zero, List.set_cons_succ]
        refine anyT_val (But.pre _) 5 rfl (by kernel_rfl) (by kernel_rfl) (by kernel_rfl) (fun _ _ _ _ h => h) rfl ?_; apply Exists.intro; refine ⟨fun v1 hv1 => ?_, ?_⟩; (· (go_simp; rfl)); simp only [Act.put, List.setIfInBounds_toArray, List.set_cons_zero, List.set_cons_succ]
        refine anyT_val (But.pre _) 6 rfl (by kernel_rfl) (by kernel_rfl) (by kernel_rfl) (fun _ _ _ _ h => h) rfl ?_; apply Exists.intro; refine ⟨fun v1 hv1 => ?_, ?_⟩; (· (go_simp; rfl)); simp only [Act.put, List.setIfInBounds_toArray, List.set_cons_zero, List.set_cons_succ]
        clear ha
        refine anyT_one 3 rfl (by kernel_rfl) rfl ?_
        refine wp_enter 15 #[.pointer (some ⟨b, 0, none⟩), .int .u16 (n : Int)] (by go_simp) ?_
        refine (HGv.out Wd hPd).mono ?_
        rintro e W1 ⟨er, rfl, hb1, hc⟩
        refine ⟨hb1.wider (fun g hg => .inl hg), ?_⟩
        simp only [Act.put, List.setIfInBounds_toArray, List.set_cons_zero, List.set_cons_succ]
        refine anyT_one 7 rfl (by kernel_rfl) rfl ?_
        refine wp_enter 30 #[.pointer (some ⟨rb, 0, none⟩), .int .u16 (n : Int)] (by go_simp) ?_
        refine hc.mono ?_
        rintro e W2 ⟨rfl, hP2, hb2, hb3⟩
        refine ⟨hb3, ?_⟩
        simp only [Act.put, List.setIfInBounds_toArray, List.set_cons_zero, List.set_cons_succ]
        refine anyT_val (But.pre _) 8 rfl (by kernel_rfl) (by kernel_rfl) (by kernel_rfl) (fun _ _ _ _ h => h) rfl ?_; apply Exists.intro; refine ⟨fun v1 hv1 => ?_, ?_⟩; (· (go_simp; rfl)); simp only [Act.put, List.setIfInBounds_toArray, List.set_cons_zero, List.set_cons_succ]
        refine anyT_val (But.pre _) 9 rfl (by kernel_rfl) (by kernel_rfl) (by kernel_rfl) (fun _ _ _ _ h => h) rfl ?_; apply Exists.intro; refine ⟨fun v1 hv1 => ?_, ?_⟩; (· (go_simp; rfl)); simp only [Act.put, List.setIfInBounds_toArray, List.set_cons_zero, List.set_cons_succ]
        refine anyT_done (by kernel_rfl) ?_
        have hbf : But (fun g => g = b ∨ g = rb) w W2 := (But.of lwd).trans hb2
        go_wp2_with fail
        go_ret
        exact ⟨by first | rfl | simp, hP2, hbf⟩
      · go_wp2_with fail
        generalize w.alloc _ = w0 at *
        have hbf : But (fun g => g = b ∨ g = rb) w w0 := But.of lb0
        go_ret
        exact ⟨rfl, ⟨ws, U, hP0⟩, hbf⟩
end Go.Proofs.YtfompbpllndmfaaDoor

/- Deeds on both pools: the law's play. -/
namespace Go.Proofs.YtfompbpllndmfaaDoor
open Go.RowKit Go.Shelf
set_option maxRecDepth 100000
set_option linter.unusedVariables false
set_option linter.unusedSimpArgs false

/-- Both pools behind deeds. -/
def PL8 (b : Nat) (W : World) (rb : Nat) : Prop := ∃ low high ws U, PP8 b rb low high ws U W
set_option maxHeartbeats 4000000 in
theorem play8_any (lo sz : Nat) (hlo : lo ≤ 65535) (hsz : sz ≤ 65535) (sv : Value) (ds : List De) (w : World) (hz : Dz w) (hI : RdE w.heap.size w sv ds) (hd : ∀ d ∈ ds, wfE d) :
    Calls Tryd.prog 7 #[.int .u16 (lo : Int), .int .u16 (sz : Int), sv] w fun e w' => Later w w' ∧ ∃ rb : Nat, e = .returned (.tuple #[.pointer (some ⟨w.heap.size, 0, none⟩), .pointer (some ⟨rb, 0, none⟩), .bool true]) ∧ PL8 w.heap.size w' rb := by
  have hzp := hz.pos
  obtain ⟨aa, ca, rfl, ha1, ha2⟩ := hI.slice
  have HI := hide hI
  have HD := hide hd
  clear hI hd
  have hlo' : (lo : Int) ≤ 65535 := by omega
  have hsz' : (sz : Int) ≤ 65535 := by omega
  go_enter Tryd.func7, Tryd.ntmps7
  go_upto_region 2 with fail
  obtain ⟨hi, hhi, hhl⟩ : ∃ hi : Nat, IntKind.u16.wrap ((lo : Int) + (sz : Int) % 200) = (hi : Int) ∧ hi ≤ 65535 := by
    refine ⟨(lo + sz % 200) % 65536, ?_, by omega⟩
    have e1 : ∀ z : Int, IntKind.u16.wrap z = z % 65536 := fun z => by simp [IntKind.wrap, IntKind.signed, IntKind.bits]
    rw [e1]
    omega
  rw [hhi]
  generalize (sz : Int) % 200 = q0 at *
  clear hhi hsz hsz'
  have hhl' : (hi : Int) ≤ 65535 := by omega
  have hcase : lo = 0 ∨ (lo ≠ 0 ∧ hi < lo) ∨ (1 ≤ lo ∧ lo ≤ hi) := by omega
  rcases hcase with rfl | ⟨ha, hb⟩ | ⟨h1, h2⟩
  case' inl =>
    go_upto_region 4 with fail
    obtain ⟨lw, hlw, hg, hhg, h1, h2, h3⟩ : ∃ lw : Nat, (10 : Int) = (lw : Int) ∧ ∃ hg : Nat, (20 : Int) = (hg : Int) ∧ 1 ≤ lw ∧ lw ≤ hg ∧ hg ≤ 65535 := ⟨10, rfl, 20, rfl, by omega, by omega, by omega⟩
    rw [show Value.int IntKind.u16 10 = Value.int IntKind.u16 (lw : Int) from by rw [← hlw], show Value.int IntKind.u16 20 = Value.int IntKind.u16 (hg : Int) from by rw [← hhg]]
    clear hlw hhg hhl hhl' hlo hlo'
  case' inr.inl =>
    have ha' : ¬ (lo : Int) = 0 := by omega
    have hb' : (hi : Int) < (lo : Int) := by omega
    go_upto_region 4 with fail
    obtain ⟨lw, hlw, hg, hhg, h1, h2, h3⟩ : ∃ lw : Nat, (10 : Int) = (lw : Int) ∧ ∃ hg : Nat, (20 : Int) = (hg : Int) ∧ 1 ≤ lw ∧ lw ≤ hg ∧ hg ≤ 65535 := ⟨10, rfl, 20, rfl, by omega, by omega, by omega⟩
    rw [show Value.int IntKind.u16 10 = Value.int IntKind.u16 (lw : Int) from by rw [← hlw], show Value.int IntKind.u16 20 = Value.int IntKind.u16 (hg : Int) from by rw [← hhg]]
    clear hlw hhg hhl hhl' ha hb ha' hb' hlo hlo'
  case' inr.inr =>
    have ha' : ¬ (lo : Int) = 0 := by omega
    have hb' : ¬ (hi : Int) < (lo : Int) := by omega
    go_upto_region 4 with fail
    obtain ⟨lw, rfl⟩ : ∃ lw : Nat, lw = lo := ⟨lo, rfl⟩
    obtain ⟨hg, rfl⟩ : ∃ hg : Nat, hg = hi := ⟨hi, rfl⟩
    have h3 := hhl
    clear hhl hhl' ha' hb' hlo hlo'
  all_goals
    have HN := hide (new8_yes lw hg h1 h2 (by omega) w)
    have HR := hide (fun W => rnew8_yes lw hg h1 h2 (by omega) W)
    have hRS := R8.start h1 h2 (show hg < 65536 by omega)
    go_wp2_with fail
    refine HN.out.mono ?_
    rintro e w1 ⟨rfl, l1, hT1⟩
    generalize hB : w.heap.size = b at *
    have l1b : Below b w w1 := by rw [← hB]; exact l1
    have hbl : b < w1.heap.size := hT1.lt
    go_wp2_with fail
    refine (HR.out w1).mono ?_
    rintro e w2 ⟨rfl, hw2⟩
    have l2 : Later w1 w2 := by rw [hw2]; exact (Below.refl _ _).alloc (Nat.le_refl _) _
    have hrb : w2.heap[w1.heap.size]? = some (.cells #[.int .i64 (lw : Int), .int .i64 (hg : Int), .slice none 0 0] 61 (0, 0)) := by rw [hw2]; exact heap_alloc_new _ _
    have hPP : PP8 b w1.heap.size lw hg (wsOf (nums lw hg)) [] w2 := ⟨hT1.later l2, ⟨_, by omega, hrb, World.ownsRow_nil _ _ _ _⟩, hRS⟩
    have L2 : Below b w w2 := l1b.trans (Below.mono l2 (by omega))
    generalize w1.heap.size = rb at *
    generalize wsOf (nums lw hg) = ws0 at *
    clear hw2 HN HR l1 l2 hT1 h1 h2 h3 hrb hRS
    go_wp2_with fail
    go_loopw [12] (fun i wr => ∃ (k : Nat) (ws : Nat → Nat) (U : List Nat), k ≤ ds.length ∧ k ≤ 100 ∧ i = .int .i64 (k : Int) ∧ PP8 b rb lw hg ws U wr ∧ Below b w wr) (fun i _ => 100 - (intOf i).toNat)
    case atStart => exact ⟨0, ws0, [], by omega, by omega, rfl, hPP, L2⟩
    case round =>
      obtain ⟨k, ws, U, hk1, hk2, rfl, hP, hbw⟩ := hrel
      have hrl : b < rb := by obtain ⟨_, ⟨v, hD⟩, _⟩ := hP; exact hD.1
      have hend : ∀ (h : ¬ (k < ds.length ∧ k < 100)), ¬ k < ds.length ∨ (k < ds.length ∧ ¬ k < 100) := fun h => by omega
      by_cases hgo : k < ds.length ∧ k < 100
      · obtain ⟨g1, g2⟩ := hgo
        have g1' : (k : Int) < ds.length := by omega
        have g2' : (k : Int) < 100 := by omega
        obtain ⟨bb, off, cp, e, _, _, hbb, hcs⟩ := (HI.out.below hbw).cells (by omega)
        simp at e
        obtain ⟨rfl, rfl⟩ := e
        have d0 := hcs k g1 0 (by omega)
        have d1 := hcs k g1 1 (by omega)
        have hwf := HD.out ds[k] (List.getElem_mem g1)
        clear hcs hend
        generalize ds[k] = r at *
        simp only [dec, List.getElem?_cons_zero, List.getElem?_cons_succ, Nat.add_zero] at d0 d1
        unfold wfE at hwf
        have HDO := hide (do8_any b rb lw hg ws U wr hP (hz.below hbw hzp) (by omega) r.k r.n.toNat (by omega))
        rw [show ((r.n.toNat : Nat) : Int) = r.n from by omega] at HDO
        go_wp2_with fail
        refine HDO.out.mono ?_
        rintro e w3 ⟨rfl, hP3, hb3⟩
        have hbw3 : Below b w w3 := hbw.trans (hb3.below (by have := hbw.size; omega) (fun g hg e => by omega))
        clear d0 d1 HDO
        go_wp2_with fail
        obtain ⟨ws3, U3, hP3⟩ := hP3
        go_roundw
        case rel => exact ⟨k + 1, ws3, U3, by omega, by omega, by go_num, hP3, hbw3⟩
        case measure => simp [intOf]; omega
      · have hPL : PL8 b wr rb := ⟨lw, hg, ws, U, hP⟩
        rcases hend hgo with h | ⟨h, h'⟩
        case' inl =>
          have h1' : ¬ (k : Int) < ds.length := by omega
          go_wp2_with fail
        case' inr =>
          have h1' : (k : Int) < ds.length := by omega
          have h2' : ¬ (k : Int) < 100 := by omega
          go_wp2_with fail
        all_goals
          refine bodyPost_ret (v := .tuple #[.pointer (some ⟨b, 0, none⟩), .pointer (some ⟨rb, 0, none⟩), .bool true]) (by simp [results, Tryd.results7, go_sem]) rfl ?_
          exact ⟨by subst hB; exact hbw, rb, rfl, hPL⟩
end Go.Proofs.YtfompbpllndmfaaDoor

/- The walk of PoolWish. -/
namespace Go.Proofs.YtfompbpllndmfaaDoor
open Go.RowKit Go.Shelf
set_option maxRecDepth 100000
set_option linter.unusedVariables false
set_option linter.unusedSimpArgs false

theorem ex_least (p : Nat → Bool) : ∀ N, (∃ a, a < N ∧ p a = true ∧ ∀ m, m < a → p m = false) ∨ ∀ m, m < N → p m = false
  | 0 => .inr (fun m h => by omega)
  | N + 1 => by
    rcases ex_least p N with ⟨a, h1, h2, h3⟩ | h
    · exact .inl ⟨a, by omega, h2, h3⟩
    · cases hp : p N with
      | true => exact .inl ⟨N, by omega, hp, h⟩
      | false => exact .inr (fun m hm => by
          by_cases e : m = N
          · rw [e]; exact hp
          · exact h m (by omega))

set_option maxHeartbeats 8000000 in
theorem walk_PoolWish (w : World) (hz : Dz w) (low : Int) (hl : 0 ≤ low ∧ low ≤ 65535) (size : Int) (hs : 0 ≤ size ∧ size ≤ 65535) (sv : Value) (ds : List De) (hd : ∀ d ∈ ds, wfE d) (hI : RdE w.heap.size w sv ds) :
    Calls Tryd.prog 4 #[.int .u16 low, .int .u16 size, sv] w fun e w' => e = .returned (.bool true) ∧ Below w.heap.size w w' := by
  obtain ⟨lo, rfl⟩ : ∃ lo : Nat, low = (lo : Int) := ⟨low.toNat, by omega⟩
  obtain ⟨sz, rfl⟩ : ∃ sz : Nat, size = (sz : Int) := ⟨size.toNat, by omega⟩
  have HPL := hide (play8_any lo sz (by omega) (by omega) sv ds w hz hI hd)
  obtain ⟨aa, ca, rfl, ha1, ha2⟩ := hI.slice
  have HI := hide hI
  have HD := hide hd
  clear hI hd
  go_enter Tryd.func4, Tryd.ntmps4
  go_wp2_with fail
  refine HPL.out.mono ?_
  rintro e w1 ⟨l1, rb, rfl, lw, hg, ws, U, hT1, _, hR⟩
  have hz1 := hz.later l1
  clear HPL
  go_wp2_with fail
  refine (live8_any w1 hz1).mono ?_
  rintro e w2 ⟨rfl, l2⟩
  have L2 : Later w1 w2 := l2
  have lw2 : Later w w2 := l1.trans L2
  have hT2 := hT1.later L2
  have hz2 := hz1.later L2
  have hbl := hT2.lt
  clear l2 hz1 hT1
  generalize hB : w.heap.size = b at *
  have lb2 : Below b w w2 := by rw [← hB]; exact lw2
  have hcase : ds = [] ∨ 0 < ds.length := by cases ds <;> simp
  rcases hcase with rfl | hpos
  case' inl =>
    go_upto_region 7 with fail
    obtain ⟨wi, hwi, hwl⟩ : ∃ wi : Nat, (lo : Int) = (wi : Int) ∧ wi < 65536 := ⟨lo, rfl, by omega⟩
    rw [hwi]
    clear hl hwi
  case' inr =>
    have hpos' : (0 : Int) < ds.length := by omega
    obtain ⟨bb, off, cp, e, _, _, hbb, hcs⟩ := (HI.out.below lb2).cells hpos
    simp at e
    obtain ⟨rfl, rfl⟩ := e
    have d1 := hcs 0 hpos 1 (by omega)
    have hwf := HD.out ds[0] (List.getElem_mem hpos)
    clear hcs
    generalize ds[0] = r at *
    simp only [dec, List.getElem?_cons_zero, List.getElem?_cons_succ, Nat.zero_mul, Nat.add_zero] at d1
    unfold wfE at hwf
    obtain ⟨wi, hwi, hwl⟩ : ∃ wi : Nat, r.n = (wi : Int) ∧ wi < 65536 := ⟨r.n.toNat, by omega, by omega⟩
    rw [hwi] at d1
    clear hl hwi hwf
    go_upto_region 7 with fail
    clear d1 hpos'
  all_goals
    go_wp2_with fail
    refine (fork8_any b b (lw : Int) (hg : Int) ws w2 hT2).mono ?_
    rintro e w3 ⟨l3, rfl, hF3⟩
    have hT3 := hT2.later l3
    have hz3 := hz2.later l3
    have hwi6 : (wi : Int) ≤ 65535 := by omega
    have hne : b ≠ w2.heap.size := by omega
    have lb3 : Below b w w3 := lb2.trans (Below.mono l3 (by omega))
    generalize w2.heap.size = fb at *
    have hf0 : fr ws 0 = false := by rw [hR.fre 0 (by omega)]; unfold rfr; have := hR.h1; simp; omega
    have hfb : b < fb := by omega
    rcases ex_least (fr ws) 65536 with ⟨a, ha, hfa, hlst⟩ | hno
    · have HTK := hide (take_least fb fb lw hg ws 0 a w3 hF3 hz3 (by omega) hf0 ha hfa hlst)
      have ha' : (a : Int) ≤ 65535 := by omega
      go_wp2_with fail
      refine HTK.out.mono ?_
      rintro e w4 ⟨rfl, _, hb4⟩
      have lb4 : Below b w w4 := lb3.trans (hb4.below (by have := lb3.size; have := hT3.lt; omega) (fun g hg e => by omega))
      have hT4 : PB b w4 b (lw : Int) (hg : Int) ws := hT3.butr hb4 hne
      have hz4 : Dz w4 := hz.below lb4 (by rw [← hB]; exact hz.pos)
      clear HTK hb4
      go_wp2_with fail
      refine (hasP_any b b lw hg ws wi w4 hT4 hwl).mono ?_
      rintro e w5 ⟨rfl, l5⟩
      have hT5 := hT4.later l5
      have hz5 := hz4.later l5
      have lb5 : Below b w w5 := lb4.trans (l5.mono (by have := hT4.lt; omega))
      cases hfw : fr ws wi with
      | true =>
        have hhs : hsP lw hg ws wi = false := by unfold hsP; simp [hfw]
        rw [hhs]
        have HTW := hide (take_wish b b lw hg ws wi w5 hT5 hz5 hwl hfw)
        have hle : (a : Int) ≤ (wi : Int) := by
          by_cases h : wi < a
          · rw [hlst wi h] at hfw; cases hfw
          · omega
        clear hfw hhs hlst hfa
        go_wp2_with fail
        refine HTW.out.mono ?_
        rintro e w6 ⟨rfl, _, hb6⟩
        have lb6 : Below b w w6 := lb5.trans (hb6.below (by have := hT5.lt; omega) (fun g hg e => by omega))
        go_wp2_with fail
        go_ret
        exact ⟨by first | rfl | simp, by rw [hB]; exact lb6⟩
      | false =>
        have HTW := hide (take_least b b lw hg ws wi a w5 hT5 hz5 hwl hfw ha hfa hlst)
        have hnaw : ¬ (a : Int) = (wi : Int) := fun e => by
          have : a = wi := by omega
          rw [this, hfw] at hfa
          cases hfa
        generalize hsP lw hg ws wi = q at *
        clear hfw hlst hfa
        go_wp2_with fail
        refine HTW.out.mono ?_
        rintro e w6 ⟨rfl, _, hb6⟩
        have lb6 : Below b w w6 := lb5.trans (hb6.below (by have := hT5.lt; omega) (fun g hg e => by omega))
        go_wp2_with fail
        go_ret
        exact ⟨by first | rfl | simp, by rw [hB]; exact lb6⟩
    · have HTK := hide (take_two fb fb lw hg ws 0 w3 hF3 hz3 (by omega))
      go_wp2_with fail
      refine HTK.out.mono ?_
      rintro e w4 (⟨n, hn, hfn, _⟩ | ⟨_, rfl, _, hb4⟩)
      · rw [hno n hn] at hfn; cases hfn
      have lb4 : Below b w w4 := lb3.trans (hb4.below (by have := lb3.size; have := hT3.lt; omega) (fun g hg e => by omega))
      have hT4 : PB b w4 b (lw : Int) (hg : Int) ws := hT3.butr hb4 hne
      have hz4 : Dz w4 := hz.below lb4 (by rw [← hB]; exact hz.pos)
      clear HTK hb4
      go_wp2_with fail
      refine (take_two b b lw hg ws wi w4 hT4 hz4 hwl).mono ?_
      rintro e w5 (⟨n, hn, hfn, _⟩ | ⟨_, rfl, hT5, hb5⟩)
      · rw [hno n hn] at hfn; cases hfn
      have lb5 : Below b w w5 := lb4.trans (hb5.below (by have := hT4.lt; omega) (fun g hg e => by omega))
      have hc0 : cnt ws 1024 = 0 := by rw [cnt_els, els_none ws hno]; rfl
      have HFR := hide (free8_any b b (lw : Int) (hg : Int) ws 0 hc0 w5 hT5)
      clear hc0
      go_wp2_with fail
      refine HFR.out.mono ?_
      rintro e w6 ⟨rfl, rfl⟩
      go_wp2_with fail
      go_ret
      exact ⟨by first | rfl | simp, by rw [hB]; exact lb5⟩
end Go.Proofs.YtfompbpllndmfaaDoor
