/- Layer 7: how long a flow stays, which are live. -/
import Derived.Test.YtbkggohjbigbgaaKC
namespace Go.Proofs.Ytbkggohjbigbgaa
open Go.RowKit Go.Shelf
set_option maxRecDepth 100000
set_option linter.unusedVariables false
set_option linter.unusedSimpArgs false

def tmT (s : Int) : Int := if s == 1 || s == 4 || s == 6 then 120 else if s == 2 || s == 5 then 60 else if s == 3 then 432000 else if s == 7 then 10 else 0
def tmO (s u e : Int) : Int := if s == 8 then u else if s == 3 then e else 0
def tm (p s : Int) : Int := if p == 6 then tmT s else if p == 17 || p == 47 then tmO s 30 180 else if p == 1 then tmO s 30 30 else 0
def lv (s : Int) : Bool := (decide (1 ≤ s) && decide (s ≤ 6)) || s == 8
def ot (s : Int) (b : Bool) : Int := if b || s == 3 then 3 else 8

theorem timeOfTcp_any (s : Int) (w : World) : Calls Try.prog 22 #[.int .i64 s] w fun e w' => e = .returned (.int .i64 (tmT s)) ∧ w' = w := by
  by_cases e1 : s = 1
  · subst e1
    go_enter Try.func22, Try.ntmps22
    go_wp2_with fail
    go_ret
    exact ⟨rfl, rfl⟩
  by_cases e2 : s = 2
  · subst e2
    clear e1
    go_enter Try.func22, Try.ntmps22
    go_wp2_with fail
    go_ret
    exact ⟨rfl, rfl⟩
  by_cases e3 : s = 3
  · subst e3
    clear e1 e2
    go_enter Try.func22, Try.ntmps22
    go_wp2_with fail
    go_ret
    exact ⟨rfl, rfl⟩
  by_cases e4 : s = 4
  · subst e4
    clear e1 e2 e3
    go_enter Try.func22, Try.ntmps22
    go_wp2_with fail
    go_ret
    exact ⟨rfl, rfl⟩
  by_cases e5 : s = 5
  · subst e5
    clear e1 e2 e3 e4
    go_enter Try.func22, Try.ntmps22
    go_wp2_with fail
    go_ret
    exact ⟨rfl, rfl⟩
  by_cases e6 : s = 6
  · subst e6
    clear e1 e2 e3 e4 e5
    go_enter Try.func22, Try.ntmps22
    go_wp2_with fail
    go_ret
    exact ⟨rfl, rfl⟩
  by_cases e7 : s = 7
  · subst e7
    clear e1 e2 e3 e4 e5 e6
    go_enter Try.func22, Try.ntmps22
    go_wp2_with fail
    go_ret
    exact ⟨rfl, rfl⟩
  have f1 : (s == 1) = false := by simp [e1]
  have f2 : (s == 2) = false := by simp [e2]
  have f3 : (s == 3) = false := by simp [e3]
  have f4 : (s == 4) = false := by simp [e4]
  have f5 : (s == 5) = false := by simp [e5]
  have f6 : (s == 6) = false := by simp [e6]
  have f7 : (s == 7) = false := by simp [e7]
  clear e1 e2 e3 e4 e5 e6 e7
  have ht : tmT s = 0 := by unfold tmT; rw [f1, f2, f3, f4, f5, f6, f7]; rfl
  rw [ht]
  clear ht
  go_enter Try.func22, Try.ntmps22
  go_wp2_with fail
  go_ret
  exact ⟨rfl, rfl⟩

theorem timeOfOther_any (s u e : Int) (w : World) : Calls Try.prog 23 #[.int .i64 s, .int .i64 u, .int .i64 e] w fun e1 w' => e1 = .returned (.int .i64 (tmO s u e)) ∧ w' = w := by
  rcases Bool.eq_false_or_eq_true (s == 8) with f8 | f8
  · rw [show tmO s u e = u from by unfold tmO; rw [f8]; rfl]
    go_enter Try.func23, Try.ntmps23
    go_wp2_with fail
    go_ret
    exact ⟨rfl, rfl⟩
  rcases Bool.eq_false_or_eq_true (s == 3) with f3 | f3
  · rw [show tmO s u e = e from by unfold tmO; rw [f8, f3]; rfl]
    go_enter Try.func23, Try.ntmps23
    go_wp2_with fail
    go_ret
    exact ⟨rfl, rfl⟩
  · rw [show tmO s u e = 0 from by unfold tmO; rw [f8, f3]; rfl]
    go_enter Try.func23, Try.ntmps23
    go_wp2_with fail
    go_ret
    exact ⟨rfl, rfl⟩

theorem time_any (p s : Int) (w : World) : Calls Try.prog 16 #[.int .u8 p, .int .i64 s] w fun e w' => e = .returned (.int .i64 (tm p s)) ∧ w' = w := by
  by_cases e6 : p = 6
  · subst e6
    go_enter Try.func16, Try.ntmps16
    go_wp2_with fail
    refine (timeOfTcp_any s _).mono ?_
    rintro e w1 ⟨rfl, rfl⟩
    go_wp2_with fail
    go_ret
    exact ⟨rfl, rfl⟩
  by_cases e17 : p = 17
  · subst e17
    go_enter Try.func16, Try.ntmps16
    go_wp2_with fail
    refine (timeOfOther_any s 30 180 _).mono ?_
    rintro e w1 ⟨rfl, rfl⟩
    go_wp2_with fail
    go_ret
    exact ⟨rfl, rfl⟩
  by_cases e47 : p = 47
  · subst e47
    go_enter Try.func16, Try.ntmps16
    go_wp2_with fail
    refine (timeOfOther_any s 30 180 _).mono ?_
    rintro e w1 ⟨rfl, rfl⟩
    go_wp2_with fail
    go_ret
    exact ⟨rfl, rfl⟩
  by_cases e1 : p = 1
  · subst e1
    go_enter Try.func16, Try.ntmps16
    go_wp2_with fail
    refine (timeOfOther_any s 30 30 _).mono ?_
    rintro e w1 ⟨rfl, rfl⟩
    go_wp2_with fail
    go_ret
    exact ⟨rfl, rfl⟩
  have f6 : (p == 6) = false := by simp [e6]
  have f17 : (p == 17) = false := by simp [e17]
  have f47 : (p == 47) = false := by simp [e47]
  have f1 : (p == 1) = false := by simp [e1]
  clear e6 e17 e47 e1
  rw [show tm p s = 0 from by unfold tm; rw [f6, f17, f47, f1]; rfl]
  go_enter Try.func16, Try.ntmps16
  go_wp2_with fail
  go_ret
  exact ⟨rfl, rfl⟩

theorem live_any (s : Int) (w : World) : Calls Try.prog 18 #[.int .i64 s] w fun e w' => e = .returned (.bool (lv s)) ∧ w' = w := by
  by_cases e0 : s = 0
  · subst e0
    go_enter Try.func18, Try.ntmps18
    go_wp2_with fail
    go_ret
    exact ⟨rfl, rfl⟩
  by_cases e1 : s = 1
  · subst e1
    clear e0
    go_enter Try.func18, Try.ntmps18
    go_wp2_with fail
    go_ret
    exact ⟨rfl, rfl⟩
  by_cases e2 : s = 2
  · subst e2
    clear e0 e1
    go_enter Try.func18, Try.ntmps18
    go_wp2_with fail
    go_ret
    exact ⟨rfl, rfl⟩
  by_cases e3 : s = 3
  · subst e3
    clear e0 e1 e2
    go_enter Try.func18, Try.ntmps18
    go_wp2_with fail
    go_ret
    exact ⟨rfl, rfl⟩
  by_cases e4 : s = 4
  · subst e4
    clear e0 e1 e2 e3
    go_enter Try.func18, Try.ntmps18
    go_wp2_with fail
    go_ret
    exact ⟨rfl, rfl⟩
  by_cases e5 : s = 5
  · subst e5
    clear e0 e1 e2 e3 e4
    go_enter Try.func18, Try.ntmps18
    go_wp2_with fail
    go_ret
    exact ⟨rfl, rfl⟩
  by_cases e6 : s = 6
  · subst e6
    clear e0 e1 e2 e3 e4 e5
    go_enter Try.func18, Try.ntmps18
    go_wp2_with fail
    go_ret
    exact ⟨rfl, rfl⟩
  by_cases e7 : s = 7
  · subst e7
    clear e0 e1 e2 e3 e4 e5 e6
    go_enter Try.func18, Try.ntmps18
    go_wp2_with fail
    go_ret
    exact ⟨rfl, rfl⟩
  by_cases e8 : s = 8
  · subst e8
    clear e0 e1 e2 e3 e4 e5 e6 e7
    go_enter Try.func18, Try.ntmps18
    go_wp2_with fail
    go_ret
    exact ⟨rfl, rfl⟩
  have f8 : (s == 8) = false := by simp [e8]
  have hv : lv s = false := by unfold lv; rw [f8]; simp; omega
  rw [hv]
  by_cases hlo : s < 0
  · clear e0 e1 e2 e3 e4 e5 e6 e7 e8 hv
    go_enter Try.func18, Try.ntmps18
    go_wp2_with fail
    go_ret
    exact ⟨by simp <;> omega, rfl⟩
  · have hhi : 8 < s := by omega
    clear e0 e1 e2 e3 e4 e5 e6 e7 e8 hv hlo
    go_enter Try.func18, Try.ntmps18
    go_wp2_with fail
    go_ret
    exact ⟨by simp <;> omega, rfl⟩

theorem rlive_any (s : Int) (w : World) : Calls Try.prog 19 #[.int .i64 s] w fun e w' => e = .returned (.bool (lv s)) ∧ w' = w := by
  by_cases e0 : s = 0
  · subst e0
    go_enter Try.func19, Try.ntmps19
    go_wp2_with fail
    go_ret
    exact ⟨rfl, rfl⟩
  by_cases e1 : s = 1
  · subst e1
    clear e0
    go_enter Try.func19, Try.ntmps19
    go_wp2_with fail
    go_ret
    exact ⟨rfl, rfl⟩
  by_cases e2 : s = 2
  · subst e2
    clear e0 e1
    go_enter Try.func19, Try.ntmps19
    go_wp2_with fail
    go_ret
    exact ⟨rfl, rfl⟩
  by_cases e3 : s = 3
  · subst e3
    clear e0 e1 e2
    go_enter Try.func19, Try.ntmps19
    go_wp2_with fail
    go_ret
    exact ⟨rfl, rfl⟩
  by_cases e4 : s = 4
  · subst e4
    clear e0 e1 e2 e3
    go_enter Try.func19, Try.ntmps19
    go_wp2_with fail
    go_ret
    exact ⟨rfl, rfl⟩
  by_cases e5 : s = 5
  · subst e5
    clear e0 e1 e2 e3 e4
    go_enter Try.func19, Try.ntmps19
    go_wp2_with fail
    go_ret
    exact ⟨rfl, rfl⟩
  by_cases e6 : s = 6
  · subst e6
    clear e0 e1 e2 e3 e4 e5
    go_enter Try.func19, Try.ntmps19
    go_wp2_with fail
    go_ret
    exact ⟨rfl, rfl⟩
  by_cases e7 : s = 7
  · subst e7
    clear e0 e1 e2 e3 e4 e5 e6
    go_enter Try.func19, Try.ntmps19
    go_wp2_with fail
    go_ret
    exact ⟨rfl, rfl⟩
  by_cases e8 : s = 8
  · subst e8
    clear e0 e1 e2 e3 e4 e5 e6 e7
    go_enter Try.func19, Try.ntmps19
    go_wp2_with fail
    go_ret
    exact ⟨rfl, rfl⟩
  have f8 : (s == 8) = false := by simp [e8]
  have hv : lv s = false := by unfold lv; rw [f8]; simp; omega
  rw [hv]
  by_cases hlo : s < 0
  · clear e0 e1 e2 e3 e4 e5 e6 e7 e8 hv
    go_enter Try.func19, Try.ntmps19
    go_wp2_with fail
    go_ret
    exact ⟨by simp <;> omega, rfl⟩
  · have hhi : 8 < s := by omega
    clear e0 e1 e2 e3 e4 e5 e6 e7 e8 hv hlo
    go_enter Try.func19, Try.ntmps19
    go_wp2_with fail
    go_ret
    exact ⟨by simp <;> omega, rfl⟩

theorem other_any (s : Int) (b : Bool) (w : World) : Calls Try.prog 14 #[.int .i64 s, .bool b] w fun e w' => e = .returned (.int .i64 (ot s b)) ∧ w' = w := by
  cases b
  · rcases Bool.eq_false_or_eq_true (s == 3) with f3 | f3
    · rw [show ot s false = 3 from by unfold ot; rw [f3]; rfl]
      go_enter Try.func14, Try.ntmps14
      go_wp2_with fail
      go_ret
      exact ⟨rfl, rfl⟩
    · rw [show ot s false = 8 from by unfold ot; rw [f3]; rfl]
      go_enter Try.func14, Try.ntmps14
      go_wp2_with fail
      go_ret
      exact ⟨rfl, rfl⟩
  · rw [show ot s true = 3 from rfl]
    go_enter Try.func14, Try.ntmps14
    go_wp2_with fail
    go_ret
    exact ⟨rfl, rfl⟩

theorem rother_any (s : Int) (b : Bool) (w : World) : Calls Try.prog 15 #[.int .i64 s, .bool b] w fun e w' => e = .returned (.int .i64 (ot s b)) ∧ w' = w := by
  cases b
  · rcases Bool.eq_false_or_eq_true (s == 3) with f3 | f3
    · rw [show ot s false = 3 from by unfold ot; rw [f3]; rfl]
      go_enter Try.func15, Try.ntmps15
      go_wp2_with fail
      go_ret
      exact ⟨rfl, rfl⟩
    · rw [show ot s false = 8 from by unfold ot; rw [f3]; rfl]
      go_enter Try.func15, Try.ntmps15
      go_wp2_with fail
      go_ret
      exact ⟨rfl, rfl⟩
  · rw [show ot s true = 3 from rfl]
    go_enter Try.func15, Try.ntmps15
    go_wp2_with fail
    go_ret
    exact ⟨rfl, rfl⟩

set_option maxHeartbeats 4000000 in
theorem rtime_any (p s : Int) (w : World) : Calls Try.prog 17 #[.int .u8 p, .int .i64 s] w fun e w' => e = .returned (.int .i64 (tm p s)) ∧ w' = w := by
  by_cases e6 : p = 6
  · subst e6
    show Calls _ _ _ _ fun e w' => e = .returned (.int .i64 (tmT s)) ∧ w' = w
    by_cases e1 : s = 1
    · subst e1
      go_enter Try.func17, Try.ntmps17
      go_wp2_with fail
      go_ret
      exact ⟨rfl, rfl⟩
    by_cases e2 : s = 2
    · subst e2
      clear e1
      go_enter Try.func17, Try.ntmps17
      go_wp2_with fail
      go_ret
      exact ⟨rfl, rfl⟩
    by_cases e3 : s = 3
    · subst e3
      clear e1 e2
      go_enter Try.func17, Try.ntmps17
      go_wp2_with fail
      go_ret
      exact ⟨rfl, rfl⟩
    by_cases e4 : s = 4
    · subst e4
      clear e1 e2 e3
      go_enter Try.func17, Try.ntmps17
      go_wp2_with fail
      go_ret
      exact ⟨rfl, rfl⟩
    by_cases e5 : s = 5
    · subst e5
      clear e1 e2 e3 e4
      go_enter Try.func17, Try.ntmps17
      go_wp2_with fail
      go_ret
      exact ⟨rfl, rfl⟩
    by_cases e6 : s = 6
    · subst e6
      clear e1 e2 e3 e4 e5
      go_enter Try.func17, Try.ntmps17
      go_wp2_with fail
      go_ret
      exact ⟨rfl, rfl⟩
    by_cases e7 : s = 7
    · subst e7
      clear e1 e2 e3 e4 e5 e6
      go_enter Try.func17, Try.ntmps17
      go_wp2_with fail
      go_ret
      exact ⟨rfl, rfl⟩
    have f1 : (s == 1) = false := by simp [e1]
    have f2 : (s == 2) = false := by simp [e2]
    have f3 : (s == 3) = false := by simp [e3]
    have f4 : (s == 4) = false := by simp [e4]
    have f5 : (s == 5) = false := by simp [e5]
    have f6 : (s == 6) = false := by simp [e6]
    have f7 : (s == 7) = false := by simp [e7]
    clear e1 e2 e3 e4 e5 e6 e7
    rw [show tmT s = 0 from by unfold tmT; rw [f1, f2, f3, f4, f5, f6, f7]; rfl]
    go_enter Try.func17, Try.ntmps17
    go_wp2_with fail
    go_ret
    exact ⟨rfl, rfl⟩
  have f6 : (p == 6) = false := by simp [e6]
  clear e6
  by_cases e8 : s = 8
  · subst e8
    by_cases g1 : p = 1
    · subst g1
      rw [show tm 1 8 = 30 from by rfl]
      go_enter Try.func17, Try.ntmps17
      go_wp2_with fail
      go_ret
      exact ⟨rfl, rfl⟩
    by_cases g17 : p = 17
    · subst g17
      rw [show tm 17 8 = 30 from by rfl]
      go_enter Try.func17, Try.ntmps17
      go_wp2_with fail
      go_ret
      exact ⟨rfl, rfl⟩
    by_cases g47 : p = 47
    · subst g47
      rw [show tm 47 8 = 30 from by rfl]
      go_enter Try.func17, Try.ntmps17
      go_wp2_with fail
      go_ret
      exact ⟨rfl, rfl⟩
    have f101 : (p == 1) = false := by simp [g1]
    have f117 : (p == 17) = false := by simp [g17]
    have f147 : (p == 47) = false := by simp [g47]
    clear g1 g17 g47
    rw [show tm p 8 = 0 from by unfold tm; rw [f6, f101, f117, f147]; rfl]
    go_enter Try.func17, Try.ntmps17
    go_wp2_with fail
    go_ret
    exact ⟨rfl, rfl⟩
  by_cases e3 : s = 3
  · subst e3
    clear e8
    by_cases g1 : p = 1
    · subst g1
      rw [show tm 1 3 = 30 from by rfl]
      go_enter Try.func17, Try.ntmps17
      go_wp2_with fail
      go_ret
      exact ⟨rfl, rfl⟩
    by_cases g17 : p = 17
    · subst g17
      rw [show tm 17 3 = 180 from by rfl]
      go_enter Try.func17, Try.ntmps17
      go_wp2_with fail
      go_ret
      exact ⟨rfl, rfl⟩
    by_cases g47 : p = 47
    · subst g47
      rw [show tm 47 3 = 180 from by rfl]
      go_enter Try.func17, Try.ntmps17
      go_wp2_with fail
      go_ret
      exact ⟨rfl, rfl⟩
    have f101 : (p == 1) = false := by simp [g1]
    have f117 : (p == 17) = false := by simp [g17]
    have f147 : (p == 47) = false := by simp [g47]
    clear g1 g17 g47
    rw [show tm p 3 = 0 from by unfold tm; rw [f6, f101, f117, f147]; rfl]
    go_enter Try.func17, Try.ntmps17
    go_wp2_with fail
    go_ret
    exact ⟨rfl, rfl⟩
  have f8 : (s == 8) = false := by simp [e8]
  have f3 : (s == 3) = false := by simp [e3]
  have n8 : (s != 8) = true := by simp [e8]
  have n3 : (s != 3) = true := by simp [e3]
  have hz : tm p s = 0 := by unfold tm tmO; rw [f6, f8, f3]; simp
  rw [hz]
  clear hz e8 e3
  go_enter Try.func17, Try.ntmps17
  go_wp2_with fail
  go_ret
  exact ⟨rfl, rfl⟩

theorem nx_live : nx 0 false 2 = 1 ∧ nx 1 true 18 = 2 ∧ nx 2 false 16 = 3 := by decide +kernel

set_option maxHeartbeats 1000000 in
theorem live7_any (w : World) : Calls Try.prog 11 #[] w fun e w' => e = .returned (.bool true) ∧ Below w.heap.size w w' := by
  obtain ⟨n1, n2, n3⟩ := nx_live
  go_enter Try.func11, Try.ntmps11
  go_wp2_with fail
  refine (next_any 0 false 2 _).mono ?_
  rw [n1]
  rintro e w1 ⟨rfl, hb1⟩
  go_wp2_with fail
  refine (next_any 1 true 18 _).mono ?_
  rw [n2]
  rintro e w2 ⟨rfl, hb2⟩
  go_wp2_with fail
  refine (next_any 2 false 16 _).mono ?_
  rw [n3]
  rintro e w3 ⟨rfl, hb3⟩
  go_wp2_with fail
  refine (time_any 6 3 _).mono ?_
  rintro e w4 ⟨rfl, rfl⟩
  rw [show tm 6 3 = 432000 from rfl]
  go_wp2_with fail
  go_ret
  exact ⟨by simp, (hb1.trans (hb2.mono hb1.size)).trans (hb3.mono (Nat.le_trans hb1.size hb2.size))⟩
end Go.Proofs.Ytbkggohjbigbgaa
