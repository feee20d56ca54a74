/- Package expect: which flows are right, alike, fit; the closures. -/
import Derived.Test.YtbimdhapkbdmjaaEA
import Derived.Deep.DeepCutAuto
import Derived.Deep.CutBlock
namespace Go.Proofs.Ytbimdhapkbdmjaa
open Go.RowKit Go.Shelf
set_option maxRecDepth 100000
set_option linter.unusedVariables false
set_option linter.unusedSimpArgs false

/-- A tuple. -/
structure Tu where
  pr : Int
  src : Int
  dst : Int
  sp : Int
  dp : Int
deriving DecidableEq
def tuc (t : Tu) : List Value := [.int .u8 t.pr, .int .u32 t.src, .int .u32 t.dst, .int .u16 t.sp, .int .u16 t.dp]
def crX (e : Ex) : Bool := (decide (e.pr = 6) || decide (e.pr = 17)) && decide (e.sp = 0) || decide (e.pr = 47)
/-- Is an expected flow right? -/
def rtX (e : Ex) : Bool := crX e && (decide (e.dst ≠ 0) && (decide (e.dp ≠ 0) && (decide (e.host ≠ 0) && (decide (e.hp ≠ 0) && (decide (0 ≤ e.ms) && (decide (0 ≤ e.dl) && decide (e.dl ≤ 1099511627776)))))))
def alX (e x : Ex) : Bool := decide (x.pr = e.pr) && (decide (x.dst = e.dst) && decide (x.dp = e.dp))
def ftX (t : Tu) (e : Ex) : Bool := decide (t.pr = e.pr) && (decide (t.dst = e.dst) && (decide (t.dp = e.dp) && (decide (e.src = 0) || decide (t.src = e.src))))
def pkX (t : Tu) (now : Int) (e : Ex) : Bool := ftX t e && decide (now < e.dl)

set_option maxHeartbeats 2000000 in
theorem carried12_any (e : Ex) (w : World) : Calls Try.prog 31 #[.agg (exc e).toArray] w fun en w' => en = .returned (.bool (crX e)) ∧ Later w w' := by
  obtain ⟨pr, src, dst, sp, dp, host, hp, ms, dl⟩ := e
  unfold exc crX
  simp only
  have lb0 : Later w (w.alloc (.cells #[.int .u8 pr, .int .u32 src, .int .u32 dst, .int .u16 sp, .int .u16 dp, .int .u32 host, .int .u16 hp, .int .i64 ms, .int .i64 dl] 26)) := (Below.refl _ _).alloc (Nat.le_refl _) _
  have c0 := block_cell (heap_alloc_new w (.cells #[.int .u8 pr, .int .u32 src, .int .u32 dst, .int .u16 sp, .int .u16 dp, .int .u32 host, .int .u16 hp, .int .i64 ms, .int .i64 dl] 26))
  go_enter Try.func31, Try.ntmps31
  go_upto_region 1 with fail
  generalize w.alloc (.cells #[.int .u8 pr, .int .u32 src, .int .u32 dst, .int .u16 sp, .int .u16 dp, .int .u32 host, .int .u16 hp, .int .i64 ms, .int .i64 dl] 26) = w0 at *
  by_cases h6 : pr = 6
  · subst h6
    go_wp2_with fail
    all_goals go_ret
    all_goals exact ⟨by simp_all <;> rfl, lb0⟩
  · by_cases h17 : pr = 17
    · subst h17
      go_wp2_with fail
      all_goals go_ret
      all_goals exact ⟨by simp_all <;> rfl, lb0⟩
    · by_cases h47 : pr = 47
      · subst h47
        go_wp2_with fail
        go_ret
        exact ⟨by simp_all, lb0⟩
      · go_wp2_with fail
        go_ret
        exact ⟨by simp_all, lb0⟩

set_option maxHeartbeats 4000000 in
theorem right12_any (e : Ex) (w : World) : Calls Try.prog 14 #[.agg (exc e).toArray] w fun en w' => en = .returned (.bool (rtX e)) ∧ Later w w' := by
  have HCR := hide (fun W => carried12_any e W)
  generalize hcr : crX e = cr at *
  have HQ : Hid (rtX e = (cr && (decide (e.dst ≠ 0) && (decide (e.dp ≠ 0) && (decide (e.host ≠ 0) && (decide (e.hp ≠ 0) && (decide (0 ≤ e.ms) && (decide (0 ≤ e.dl) && decide (e.dl ≤ 1099511627776))))))))) := by show _ = _; unfold rtX; rw [hcr]
  rw [HQ.out]
  clear HQ hcr
  obtain ⟨pr, src, dst, sp, dp, host, hp, ms, dl⟩ := e
  unfold exc at *
  simp only at *
  have lb0 : Later w (w.alloc (.cells #[.int .u8 pr, .int .u32 src, .int .u32 dst, .int .u16 sp, .int .u16 dp, .int .u32 host, .int .u16 hp, .int .i64 ms, .int .i64 dl] 26)) := (Below.refl _ _).alloc (Nat.le_refl _) _
  have c0 := heap_alloc_new w (.cells #[.int .u8 pr, .int .u32 src, .int .u32 dst, .int .u16 sp, .int .u16 dp, .int .u32 host, .int .u16 hp, .int .i64 ms, .int .i64 dl] 26)
  have k0 := block_cell c0
  go_enter Try.func14, Try.ntmps14
  go_wp2_with fail
  generalize w.alloc (.cells #[.int .u8 pr, .int .u32 src, .int .u32 dst, .int .u16 sp, .int .u16 dp, .int .u32 host, .int .u16 hp, .int .i64 ms, .int .i64 dl] 26) = w0 at *
  refine (HCR.out w0).mono ?_
  rintro e w1 ⟨rfl, l1⟩
  have L1 : Later w w1 := lb0.trans l1
  have k1 := block_cell (later_keep l1 c0)
  clear k0 c0 HCR
  cases cr with
  | false =>
    go_wp2_with fail
    go_ret
    exact ⟨by simp, L1⟩
  | true =>
    by_cases h1 : dst = 0
    · subst h1
      go_wp2_with fail
      go_ret
      exact ⟨by simp, L1⟩
    by_cases h2 : dp = 0
    · subst h2
      go_wp2_with fail
      go_ret
      exact ⟨by simp, L1⟩
    by_cases h3 : host = 0
    · subst h3
      go_wp2_with fail
      go_ret
      exact ⟨by simp, L1⟩
    by_cases h4 : hp = 0
    · subst h4
      go_wp2_with fail
      go_ret
      exact ⟨by simp, L1⟩
    by_cases h5 : 0 ≤ ms
    · by_cases h6 : 0 ≤ dl
      · by_cases h7 : dl ≤ 1099511627776
        · go_wp2_with fail
          go_ret
          exact ⟨by first | (simp [*]; done) | (simp [*]; omega), L1⟩
        · go_wp2_with fail
          go_ret
          exact ⟨by first | (simp [*]; done) | (simp [*]; omega), L1⟩
      · go_wp2_with fail
        go_ret
        exact ⟨by first | (simp [*]; done) | (simp [*]; omega), L1⟩
    · go_wp2_with fail
      go_ret
      exact ⟨by first | (simp [*]; done) | (simp [*]; omega), L1⟩

set_option maxHeartbeats 2000000 in
theorem alike1_any (x e : Ex) (eb : Nat) (w : World) (hc : w.heap[eb]? = some (.cells (exc e).toArray 26 (0, 0))) :
    Calls Try.prog 45 #[.agg (exc x).toArray, .pointer (some ⟨eb, 0, none⟩)] w fun en w' => en = .returned (.bool (alX e x)) ∧ Later w w' := by
  obtain ⟨pr, src, dst, sp, dp, host, hp, ms, dl⟩ := x
  obtain ⟨p2, s2, d2, sp2, dp2, h2, hp2, m2, l2⟩ := e
  unfold exc alX at *
  simp only at *
  have lb0 : Later w (w.alloc (.cells #[.int .u8 pr, .int .u32 src, .int .u32 dst, .int .u16 sp, .int .u16 dp, .int .u32 host, .int .u16 hp, .int .i64 ms, .int .i64 dl] 26)) := (Below.refl _ _).alloc (Nat.le_refl _) _
  have c0 := block_cell (heap_alloc_new w (.cells #[.int .u8 pr, .int .u32 src, .int .u32 dst, .int .u16 sp, .int .u16 dp, .int .u32 host, .int .u16 hp, .int .i64 ms, .int .i64 dl] 26))
  have cx := block_cell (later_keep lb0 hc)
  clear hc
  go_enter Try.func45, Try.ntmps45
  go_upto_region 1 with fail
  generalize w.alloc (.cells #[.int .u8 pr, .int .u32 src, .int .u32 dst, .int .u16 sp, .int .u16 dp, .int .u32 host, .int .u16 hp, .int .i64 ms, .int .i64 dl] 26) = w0 at *
  by_cases e1 : pr = p2
  · subst e1
    by_cases e2 : dst = d2
    · subst e2
      by_cases e3 : dp = dp2
      · subst e3
        go_wp2_with fail
        go_ret
        exact ⟨by simp, lb0⟩
      · go_wp2_with fail
        go_ret
        exact ⟨by simp [*], lb0⟩
    · go_wp2_with fail
      go_ret
      exact ⟨by simp [*], lb0⟩
  · go_wp2_with fail
    go_ret
    exact ⟨by simp [*], lb0⟩

set_option maxHeartbeats 4000000 in
theorem fits12_any (t : Tu) (e : Ex) (w : World) : Calls Try.prog 35 #[.agg (tuc t).toArray, .agg (exc e).toArray] w fun en w' => en = .returned (.bool (ftX t e)) ∧ Later w w' := by
  obtain ⟨tp, ts, td, ta, tb⟩ := t
  obtain ⟨pr, src, dst, sp, dp, host, hp, ms, dl⟩ := e
  unfold exc tuc ftX
  simp only
  have lb0 : Later w ((w.alloc (.cells #[.int .u8 tp, .int .u32 ts, .int .u32 td, .int .u16 ta, .int .u16 tb] 28)).alloc (.cells #[.int .u8 pr, .int .u32 src, .int .u32 dst, .int .u16 sp, .int .u16 dp, .int .u32 host, .int .u16 hp, .int .i64 ms, .int .i64 dl] 26)) := ((Below.refl _ _).alloc (Nat.le_refl _) _).alloc (by simp) _
  have c0 : ((w.alloc (.cells #[.int .u8 tp, .int .u32 ts, .int .u32 td, .int .u16 ta, .int .u16 tb] 28)).alloc (.cells #[.int .u8 pr, .int .u32 src, .int .u32 dst, .int .u16 sp, .int .u16 dp, .int .u32 host, .int .u16 hp, .int .i64 ms, .int .i64 dl] 26)).heap[w.heap.size]? = _ := (Below.heap_alloc _ _ _ (by simp)).trans (heap_alloc_new w _)
  have c1 : ((w.alloc (.cells #[.int .u8 tp, .int .u32 ts, .int .u32 td, .int .u16 ta, .int .u16 tb] 28)).alloc (.cells #[.int .u8 pr, .int .u32 src, .int .u32 dst, .int .u16 sp, .int .u16 dp, .int .u32 host, .int .u16 hp, .int .i64 ms, .int .i64 dl] 26)).heap[w.heap.size + 1]? = some (.cells #[.int .u8 pr, .int .u32 src, .int .u32 dst, .int .u16 sp, .int .u16 dp, .int .u32 host, .int .u16 hp, .int .i64 ms, .int .i64 dl] 26) := by
    have := heap_alloc_new (w.alloc (.cells #[.int .u8 tp, .int .u32 ts, .int .u32 td, .int .u16 ta, .int .u16 tb] 28)) (.cells #[.int .u8 pr, .int .u32 src, .int .u32 dst, .int .u16 sp, .int .u16 dp, .int .u32 host, .int .u16 hp, .int .i64 ms, .int .i64 dl] 26)
    rwa [World.size_alloc] at this
  have k0 := block_cell c0
  have k1 := block_cell c1
  clear c0 c1
  go_enter Try.func35, Try.ntmps35
  go_upto_region 1 with fail
  generalize (w.alloc _).alloc _ = w0 at *
  by_cases e1 : tp = pr
  · subst e1
    by_cases e2 : td = dst
    · subst e2
      by_cases e3 : tb = dp
      · subst e3
        by_cases e4 : src = 0
        · subst e4
          go_wp2_with fail
          go_ret
          exact ⟨by simp, lb0⟩
        · by_cases e5 : ts = src
          · subst e5
            go_wp2_with fail
            go_ret
            exact ⟨by simp, lb0⟩
          · go_wp2_with fail
            go_ret
            exact ⟨by simp [*], lb0⟩
      · go_wp2_with fail
        go_ret
        exact ⟨by simp [*], lb0⟩
    · go_wp2_with fail
      go_ret
      exact ⟨by simp [*], lb0⟩
  · go_wp2_with fail
    go_ret
    exact ⟨by simp [*], lb0⟩

set_option maxHeartbeats 4000000 in
theorem peek1_any (x : Ex) (t : Tu) (now : Int) (tb nb : Nat) (w : World) (hc1 : w.heap[tb]? = some (.cells (tuc t).toArray 28 (0, 0))) (hc2 : w.cell? ⟨nb, 0, none⟩ = some (.int .i64 now)) :
    Calls Try.prog 34 #[.agg (exc x).toArray, .pointer (some ⟨tb, 0, none⟩), .pointer (some ⟨nb, 0, none⟩)] w fun en w' => en = .returned (.bool (pkX t now x)) ∧ Later w w' := by
  have HF := hide (fun W => fits12_any t x W)
  have HQ : Hid (pkX t now x = (ftX t x && decide (now < x.dl))) := rfl
  rw [HQ.out]
  clear HQ
  generalize ftX t x = q at *
  obtain ⟨tp, ts, td, ta, tq⟩ := t
  obtain ⟨pr, src, dst, sp, dp, host, hp, ms, dl⟩ := x
  unfold exc tuc at *
  simp only at *
  have lb0 : Later w (w.alloc (.cells #[.int .u8 pr, .int .u32 src, .int .u32 dst, .int .u16 sp, .int .u16 dp, .int .u32 host, .int .u16 hp, .int .i64 ms, .int .i64 dl] 26)) := (Below.refl _ _).alloc (Nat.le_refl _) _
  have c0 := heap_alloc_new w (.cells #[.int .u8 pr, .int .u32 src, .int .u32 dst, .int .u16 sp, .int .u16 dp, .int .u32 host, .int .u16 hp, .int .i64 ms, .int .i64 dl] 26)
  have k0 := block_cell c0
  have d1 := block_cell (later_keep lb0 hc1)
  have d2 := lb0.cell hc2
  clear hc1 hc2
  go_enter Try.func34, Try.ntmps34
  go_wp2_with fail
  generalize w.alloc (.cells #[.int .u8 pr, .int .u32 src, .int .u32 dst, .int .u16 sp, .int .u16 dp, .int .u32 host, .int .u16 hp, .int .i64 ms, .int .i64 dl] 26) = w0 at *
  refine (HF.out w0).mono ?_
  rintro e w1 ⟨rfl, l1⟩
  have L1 : Later w w1 := lb0.trans l1
  have k1 := block_cell (later_keep l1 c0)
  have d3 := l1.cell d2
  clear k0 c0 HF d1 d2
  cases q with
  | false =>
    go_wp2_with fail
    go_ret
    exact ⟨by simp, L1⟩
  | true =>
    go_wp2_with fail
    go_ret
    exact ⟨by simp, L1⟩

theorem ex_eql (x y : Ex) (w : World) : (binOp .eql 26 (.agg (exc x).toArray) (.agg (exc y).toArray)).run Try.prog w = .ok (.bool (decide (x = y))) w := by
  obtain ⟨k1, p1, n1, b1, t1, q1, h1, g1, f1⟩ := x
  obtain ⟨k2, p2, n2, b2, t2, q2, h2, g2, f2⟩ := y
  unfold exc
  simp only
  go_simp
  by_cases e1 : k1 = k2 <;> by_cases e2 : p1 = p2 <;> by_cases e3 : n1 = n2 <;> by_cases e4 : b1 = b2 <;> by_cases e5 : t1 = t2 <;> by_cases e6 : q1 = q2 <;> by_cases e7 : h1 = h2 <;> by_cases e8 : g1 = g2 <;> by_cases e9 : f1 = f2 <;> simp [e1, e2, e3, e4, e5, e6, e7, e8, e9, Ex.mk.injEq]

set_option maxHeartbeats 2000000 in
theorem match1_any (y x : Ex) (xb : Nat) (w : World) (hc : w.heap[xb]? = some (.cells (exc x).toArray 26 (0, 0))) :
    Calls Try.prog 37 #[.agg (exc y).toArray, .pointer (some ⟨xb, 0, none⟩)] w fun e w' => e = .returned (.bool (decide (y = x))) ∧ Later w w' := by
  obtain ⟨pr, src, dst, sp, dp, host, hp, ms, dl⟩ := y
  obtain ⟨p2, s2, d2, sp2, dp2, h2, hp2, m2, l2⟩ := x
  unfold exc at *
  simp only at *
  have lb0 : Later w (w.alloc (.cells #[.int .u8 pr, .int .u32 src, .int .u32 dst, .int .u16 sp, .int .u16 dp, .int .u32 host, .int .u16 hp, .int .i64 ms, .int .i64 dl] 26)) := (Below.refl _ _).alloc (Nat.le_refl _) _
  have c0 := block_cell (heap_alloc_new w (.cells #[.int .u8 pr, .int .u32 src, .int .u32 dst, .int .u16 sp, .int .u16 dp, .int .u32 host, .int .u16 hp, .int .i64 ms, .int .i64 dl] 26))
  have cx := block_cell (later_keep lb0 hc)
  clear hc
  go_enter Try.func37, Try.ntmps37
  go_upto_region 1 with fail
  generalize w.alloc (.cells #[.int .u8 pr, .int .u32 src, .int .u32 dst, .int .u16 sp, .int .u16 dp, .int .u32 host, .int .u16 hp, .int .i64 ms, .int .i64 dl] 26) = w0 at *
  go_wp2_with fail
  all_goals go_ret
  all_goals exact ⟨by simp_all <;> rfl, lb0⟩

set_option maxHeartbeats 2000000 in
theorem of1_any (y : Ex) (m : Int) (mb : Nat) (w : World) (hc : w.cell? ⟨mb, 0, none⟩ = some (.int .i64 m)) :
    Calls Try.prog 47 #[.agg (exc y).toArray, .pointer (some ⟨mb, 0, none⟩)] w fun e w' => e = .returned (.bool (decide (y.ms = m))) ∧ Later w w' := by
  obtain ⟨pr, src, dst, sp, dp, host, hp, ms, dl⟩ := y
  unfold exc at *
  simp only at *
  have lb0 : Later w (w.alloc (.cells #[.int .u8 pr, .int .u32 src, .int .u32 dst, .int .u16 sp, .int .u16 dp, .int .u32 host, .int .u16 hp, .int .i64 ms, .int .i64 dl] 26)) := (Below.refl _ _).alloc (Nat.le_refl _) _
  have c0 := block_cell (heap_alloc_new w (.cells #[.int .u8 pr, .int .u32 src, .int .u32 dst, .int .u16 sp, .int .u16 dp, .int .u32 host, .int .u16 hp, .int .i64 ms, .int .i64 dl] 26))
  have cx := lb0.cell hc
  clear hc
  go_enter Try.func47, Try.ntmps47
  go_upto_region 1 with fail
  generalize w.alloc (.cells #[.int .u8 pr, .int .u32 src, .int .u32 dst, .int .u16 sp, .int .u16 dp, .int .u32 host, .int .u16 hp, .int .i64 ms, .int .i64 dl] 26) = w0 at *
  go_wp2_with fail
  all_goals go_ret
  all_goals exact ⟨by first | rfl | simp_all, lb0⟩

set_option maxHeartbeats 2000000 in
theorem due1_any (y : Ex) (m : Int) (mb : Nat) (w : World) (hc : w.cell? ⟨mb, 0, none⟩ = some (.int .i64 m)) :
    Calls Try.prog 39 #[.agg (exc y).toArray, .pointer (some ⟨mb, 0, none⟩)] w fun e w' => e = .returned (.bool (decide (y.dl ≤ m))) ∧ Later w w' := by
  obtain ⟨pr, src, dst, sp, dp, host, hp, ms, dl⟩ := y
  unfold exc at *
  simp only at *
  have lb0 : Later w (w.alloc (.cells #[.int .u8 pr, .int .u32 src, .int .u32 dst, .int .u16 sp, .int .u16 dp, .int .u32 host, .int .u16 hp, .int .i64 ms, .int .i64 dl] 26)) := (Below.refl _ _).alloc (Nat.le_refl _) _
  have c0 := block_cell (heap_alloc_new w (.cells #[.int .u8 pr, .int .u32 src, .int .u32 dst, .int .u16 sp, .int .u16 dp, .int .u32 host, .int .u16 hp, .int .i64 ms, .int .i64 dl] 26))
  have cx := lb0.cell hc
  clear hc
  go_enter Try.func39, Try.ntmps39
  go_upto_region 1 with fail
  generalize w.alloc (.cells #[.int .u8 pr, .int .u32 src, .int .u32 dst, .int .u16 sp, .int .u16 dp, .int .u32 host, .int .u16 hp, .int .i64 ms, .int .i64 dl] 26) = w0 at *
  go_wp2_with fail
  all_goals go_ret
  all_goals exact ⟨by first | rfl | simp_all, lb0⟩
end Go.Proofs.Ytbimdhapkbdmjaa
