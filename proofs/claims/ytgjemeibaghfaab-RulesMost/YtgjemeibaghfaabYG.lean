/- Package rules: Masq, Dnat, has. -/
import Derived.Test.YtgjemeibaghfaabYF
import Derived.Test.YtgjemeibaghfaabYC
import Derived.Deep.DeepCutAuto
import Derived.Deep.CutBlock
namespace Go.Proofs.Ytgjemeibaghfaab
open Go.RowKit Go.Shelf
set_option maxRecDepth 100000
set_option linter.unusedVariables false
set_option linter.unusedSimpArgs false

/-- What every list of rules is. -/
def okL (l : List Ru) : Prop := l.length ≤ 32 ∧ ∀ x ∈ l, wfR x ∧ rtB x = true
theorem rtB_bits {x : Ru} (h : rtB x = true) (hk : x.kind = 1) : 0 ≤ x.bits ∧ x.bits ≤ 32 := by
  unfold rtB at h
  rw [if_pos hk] at h
  unfold rtM at h
  simp at h
  omega
def mqB (src : Int) (x : Ru) : Bool := decide (x.kind = 1) && decide (upp src x.bits = x.net)
def dnB (proto dst port : Int) (x : Ru) : Bool := decide (x.kind = 2) && (decide (x.proto = proto) && (decide (x.to = dst) && decide (x.port = port)))

set_option maxHeartbeats 2000000 in
theorem masq1_any (x : Ru) (sb : Nat) (src : Int) (w : World) (hb : x.kind = 1 → 0 ≤ x.bits ∧ x.bits ≤ 32) (hs : 0 ≤ src ∧ src ≤ 4294967295) (hc : w.cell? ⟨sb, 0, none⟩ = some (.int .u32 src)) :
    Calls Try.prog 18 #[.agg (ruc x).toArray, .pointer (some ⟨sb, 0, none⟩)] w fun e w' => e = .returned (.bool (mqB src x)) ∧ Later w w' := by
  obtain ⟨kind, proto, net, bts, tq, port, host, hp⟩ := x
  unfold ruc mqB
  simp only at *
  have lb0 : Later w (w.alloc (.cells #[.int .i64 kind, .int .u8 proto, .int .u32 net, .int .i64 bts, .int .u32 tq, .int .u16 port, .int .u32 host, .int .u16 hp] 30)) := (Below.refl _ _).alloc (Nat.le_refl _) _
  have c0 := block_cell (heap_alloc_new w (.cells #[.int .i64 kind, .int .u8 proto, .int .u32 net, .int .i64 bts, .int .u32 tq, .int .u16 port, .int .u32 host, .int .u16 hp] 30))
  have cs := lb0.cell hc
  clear hc
  go_enter Try.func18, Try.ntmps18
  go_wp2_with fail
  generalize w.alloc (.cells #[.int .i64 kind, .int .u8 proto, .int .u32 net, .int .i64 bts, .int .u32 tq, .int .u16 port, .int .u32 host, .int .u16 hp] 30) = w0 at *
  by_cases k1 : kind = 1
  · obtain ⟨h0, h1⟩ := hb k1
    have hU : ∀ W, Calls Try.prog 19 #[.int .i64 bts] W fun e w' => e = .returned (.int .u32 (upm bts)) ∧ w' = W := fun W => upper_any bts W h0 h1
    have hz := and_upm src bts hs h0 h1
    have HZ := hide hz
    clear hz
    go_quiet (first | (go_at_call 19; exact Calls.quiet_of_same (hU _)))
    go_wp2_with fail
    go_ret
    refine ⟨?_, lb0.trans (below_draw (Later.refl _) _)⟩
    show Ending.returned (Value.bool _) = _
    rw [HZ.out]
    simp [k1]
    rfl
  · go_quiet (fail)
    go_wp2_with fail
    go_ret
    exact ⟨by simp [k1], lb0.trans (below_draw (Later.refl _) _)⟩

theorem wpList_valD {P : Program} {ops : Array Oper} {rest : List Oper} {o : Oper} {a : Act} {Q : Exit → Act → World → Prop} {w : World} (k : Nat) (hd : o.dst = some k) (hg : o.guard = none) (v : Value) (h : (execOp a.eval o).run P w = .ok (.value v) w)
    (hk : wpList P ops Q rest (a.put o.dst v) w) : wpList P ops Q (o :: rest) a w := wpList_plain hg fun K hK => by unfold Oper.wp; rw [h]; exact hK _ _ hk
theorem ru_eql (x y : Ru) (w : World) : (binOp .eql 30 (.agg (ruc x).toArray) (.agg (ruc y).toArray)).run Try.prog w = .ok (.bool (decide (x = y))) w := by
  obtain ⟨k1, p1, n1, b1, t1, q1, h1, g1⟩ := x
  obtain ⟨k2, p2, n2, b2, t2, q2, h2, g2⟩ := y
  unfold ruc
  simp only
  go_simp
  by_cases e1 : k1 = k2 <;> by_cases e2 : p1 = p2 <;> by_cases e3 : n1 = n2 <;> by_cases e4 : b1 = b2 <;> by_cases e5 : t1 = t2 <;> by_cases e6 : q1 = q2 <;> by_cases e7 : h1 = h2 <;> by_cases e8 : g1 = g2 <;> simp [e1, e2, e3, e4, e5, e6, e7, e8, Ru.mk.injEq]

set_option maxHeartbeats 2000000 in
theorem has1_any (y x : Ru) (xb : Nat) (w : World) (hc : w.heap[xb]? = some (.cells (ruc x).toArray 30 (0, 0))) :
    Calls Try.prog 22 #[.agg (ruc y).toArray, .pointer (some ⟨xb, 0, none⟩)] w fun e w' => e = .returned (.bool (decide (y = x))) ∧ Later w w' := by
  obtain ⟨kind, proto, net, bts, tq, port, host, hp⟩ := y
  obtain ⟨k2, p2, n2, b2, t2, q2, h2, g2⟩ := x
  unfold ruc at *
  simp only at *
  have lb0 : Later w (w.alloc (.cells #[.int .i64 kind, .int .u8 proto, .int .u32 net, .int .i64 bts, .int .u32 tq, .int .u16 port, .int .u32 host, .int .u16 hp] 30)) := (Below.refl _ _).alloc (Nat.le_refl _) _
  have c0 := block_cell (heap_alloc_new w (.cells #[.int .i64 kind, .int .u8 proto, .int .u32 net, .int .i64 bts, .int .u32 tq, .int .u16 port, .int .u32 host, .int .u16 hp] 30))
  have cx := block_cell (later_keep lb0 hc)
  clear hc
  go_enter Try.func22, Try.ntmps22
  go_upto_region 1 with fail
  generalize w.alloc (.cells #[.int .i64 kind, .int .u8 proto, .int .u32 net, .int .i64 bts, .int .u32 tq, .int .u16 port, .int .u32 host, .int .u16 hp] 30) = w0 at *
  go_wp2_with fail
  all_goals go_ret
  all_goals exact ⟨by simp_all, lb0⟩
end Go.Proofs.Ytgjemeibaghfaab
