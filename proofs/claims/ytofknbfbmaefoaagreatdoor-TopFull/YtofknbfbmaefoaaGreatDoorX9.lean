import Derived.Test.YtofknbfbmaefoaaGreatDoorX10
import Derived.Test.YtofknbfbmaefoaaGreatDoorX19
import Derived.Deep.DeepCutAuto
import Derived.MapKept
import Derived.Laws.IdiomRangeMap
import Derived.Maps.RangeRun
import Derived.Test.YtofknbfbmaefoaaGreatDoorProg
import Derived.Laws.Bits64b
import Derived.Laws.BitsAllLaws
import Derived.Lib.TrailingZeros
import Derived.Deep.CutBlock
namespace Go.Proofs.YtofknbfbmaefoaaGreatDoor
open Go.RowKit Go.Shelf
set_option maxRecDepth 100000
set_option linter.unusedVariables false
set_option linter.unusedSimpArgs false
theorem giveExpected_none (p : Value) (a : Option Addr) (cap : Nat) (w : World) : Calls Tryz.prog 35 #[p, .slice a 0 cap] w fun e w' => e = .returned (.tuple #[]) ∧ w' = w := by
 go_enter Tryz.func35, Tryz.ntmps35
 go_upto_region 1 with fail
 go_loopw [8] (fun iv wr => iv = .int .i64 0 ∧ wr = w) (fun _ _ => 0)
 case atStart => exact ⟨rfl, rfl⟩
 case round =>
  obtain ⟨rfl, hw⟩ := hrel
  go_wp2_with fail
  go_end0
  exact ⟨rfl, rfl⟩
theorem ownG_but {W W' : World} {base : Nat} {e t : TypeId} {size : Nat} {v : Value} {n : Nat} {xs : List Value} (h : W.ownsRow base e size v n xs) {g : Nat} (hb : But (fun b => b = g) W W') {cur : Array Value} {f : Nat × Nat} (hg : W.heap[g]? = some (.cells cur t f)) (hne : e ≠ t) : W'.ownsRow base e size v n xs := by
 obtain ⟨h1, h2 | ⟨b, cap, cur', e', hb', hh, r⟩⟩ := h
 ·exact ⟨h1, .inl h2⟩
 ·refine ⟨h1, .inr ⟨b, cap, cur', e', hb', (hb.block b (bl9 hh) (fun eq => ?_)).trans hh, r⟩⟩
  have eq' : b = g := eq
  rw [eq', hg] at hh
  cases hh
  exact hne rfl
theorem TB.butG {base bt : Nat} {W W' : World} {lim cnt trn : Int} {ls : Nat → List Rw} (h : TB base W bt lim cnt trn ls) {g : Nat} (hb : But (fun b => b = g) W W') {t : TypeId} {cur : Array Value} {f : Nat × Nat} (hg : W.heap[g]? = some (.cells cur t f)) (h1 : t ≠ 142) (h2 : 177 ≠ t) : TB base W' bt lim cnt trn ls := by
 obtain ⟨vs, q1, q2, q3, q4, q5⟩ := h
 refine ⟨vs, q1, q2, (hb.block bt (bl9 q3) (fun eq => ?_)).trans q3, fun i hi => ownG_but (q4 i hi) hb hg h2, q5⟩
 have eq' : bt = g := eq
 rw [eq', hg] at q3
 cases q3
 exact h1 rfl
theorem cellsG_but {W W' : World} {g b : Nat} {o : Obj} (hb : But (fun b => b = g) W W') (h : W.heap[b]? = some o) {cur : Array Value} {t : TypeId} {f : Nat × Nat} (hg : W.heap[g]? = some (.cells cur t f)) (hne : o ≠ .cells cur t f) : W'.heap[b]? = some o :=
 (hb.block b (bl9 h) (fun eq => by
  have eq' : b = g := eq
  rw [eq', hg] at h
  cases h
  exact hne rfl)).trans h
theorem GI.now {base g : Nat} {W : World} {s : Gs} (h : GI base W g s) (n : Int) : GI base (W.setCell ⟨g, 2, none⟩ (.int .i64 n)) g { s with now := n } := by
 have hb : But (fun b => b = g) W (W.setCell ⟨g, 2, none⟩ (.int .i64 n)) := (But.refl (fun b => b = g) _).setCell (show _ = _ from rfl) _
 have hc := h.gc
 have h2 := heap_set1 h.gc 2 (.int .i64 n)
 refine ⟨h.bs, h2, ⟨h.rl.1, cellsG_but hb h.rl.2.1 hc (by intro e; injection e with e1 e2 e3; exact absurd e2 (by decide)), ownG_but h.rl.2.2 hb hc (by decide)⟩, h.tb.butG hb hc (by decide) (by decide), ⟨h.bl.1, cellsG_but hb h.bl.2.1 hc (by intro e; injection e with e1 e2 e3; exact absurd e2 (by decide)), ownG_but h.bl.2.2 hb hc (by decide)⟩, cellsG_but hb h.fl hc (by intro e; cases e), cellsG_but hb h.pl hc (by intro e; cases e)⟩
theorem GI.book {base g : Nat} {W W' : World} {s : Gs} (h : GI base W g s) (hb : But (fun b => b = s.gb) W W') {v : Value} (hl : BL 144 base W' s.gb v []) : GI base W' g { s with ve := v } := by
 have hc := h.bl.2.1
 exact ⟨h.bs, cellsG_but hb h.gc hc (by intro e; injection e with e1 e2 e3; exact absurd e2 (by decide)), ⟨h.rl.1, cellsG_but hb h.rl.2.1 hc (by intro e; injection e with e1 e2 e3; exact absurd e2 (by decide)), ownG_but h.rl.2.2 hb hc (by decide)⟩, h.tb.butG hb hc (by decide) (by decide), hl, cellsG_but hb h.fl hc (by intro e; cases e), cellsG_but hb h.pl hc (by intro e; cases e)⟩
def GsK (base : Nat) (lo hi : Int) (s : Gs) : Prop := s.lo = lo ∧ s.hi = hi ∧ (0 ≤ s.now ∧ s.now ≤ 549755813888) ∧ s.gf ≠ s.gp ∧ base ≤ s.gf ∧ base ≤ s.gp
def SmG (s s' : Gs) : Prop := s'.gb = s.gb ∧ ∀ b lo hi, GsK b lo hi s → GsK b lo hi s'
def TkG (base : Nat) (w w' : World) (g : Nat) (s : Gs) : Prop := But (fun b => b = g ∨ b = s.gb) w w' ∧ ∃ s', s'.ls = s.ls ∧ SmG s s' ∧ GI base w' g s'
theorem TkG.below {base g : Nat} {w w' : World} {s : Gs} (h : TkG base w w' g s) (hg : GI base w g s) (hbs : base ≤ w.heap.size) : Below base w w' := h.1.below hbs (fun k hk e => by
 have h1 := hg.bs
 have h2 := hg.bl.1
 rcases e with e | e <;> omega)
theorem ownG_mono {W : World} {base base' : Nat} {e : TypeId} {size : Nat} {v : Value} {n : Nat} {xs : List Value} (h : W.ownsRow base e size v n xs) (hb : base' ≤ base) : W.ownsRow base' e size v n xs := by
 obtain ⟨h1, h2 | ⟨b, cap, cur, e', hb', r⟩⟩ := h
 ·exact ⟨h1, .inl h2⟩
 ·exact ⟨h1, .inr ⟨b, cap, cur, e', Nat.le_trans hb hb', r⟩⟩
theorem RL.monoG {t : TypeId} {base base' : Nat} {W : World} {b : Nat} {v : Value} {l : List Ru} (h : RL t base W b v l) (hb : base' ≤ base) : RL t base' W b v l := ⟨Nat.le_trans hb h.1, h.2.1, ownG_mono h.2.2 hb⟩
theorem BL.monoG {t : TypeId} {base base' : Nat} {W : World} {b : Nat} {v : Value} {l : List Ex} (h : BL t base W b v l) (hb : base' ≤ base) : BL t base' W b v l := ⟨Nat.le_trans hb h.1, h.2.1, ownG_mono h.2.2 hb⟩
theorem TB.monoG {base base' : Nat} {W : World} {b : Nat} {lim cnt trn : Int} {ls : Nat → List Rw} (h : TB base W b lim cnt trn ls) (hb : base' ≤ base) : TB base' W b lim cnt trn ls := by
 obtain ⟨vs, q1, q2, q3, q4, q5⟩ := h
 exact ⟨vs, q1, Nat.le_trans hb q2, q3, fun i hi => ownG_mono (q4 i hi) hb, q5⟩
def RuE (W : World) (E : Nat → Prop) : Prop := ∀ b, E b → ∃ cur t f, W.heap[b]? = some (.cells cur t f) ∧ (t = 136 ∨ t = 35)
theorem RuE.keep {W W' : World} {E : Nat → Prop} (hE : RuE W E) (hb : But E W W') {b : Nat} {o : Obj} (h : W.heap[b]? = some o) (ho : ∀ cur t f, o = .cells cur t f → t ≠ 136 ∧ t ≠ 35) : W'.heap[b]? = some o :=
 (hb.block b (bl9 h) (fun e => by
  obtain ⟨cur, t, f, h1, h2⟩ := hE b e
  rw [h] at h1
  have := ho cur t f (Option.some.inj h1)
  rcases h2 with h2 | h2
  ·exact this.1 h2
  ·exact this.2 h2)).trans h
theorem RuE.own {W W' : World} {E : Nat → Prop} (hE : RuE W E) (hb : But E W W') {base : Nat} {e : TypeId} {size : Nat} {v : Value} {n : Nat} {xs : List Value} (h : W.ownsRow base e size v n xs) (h1 : e ≠ 136) (h2 : e ≠ 35) : W'.ownsRow base e size v n xs := by
 obtain ⟨q1, q2 | ⟨b, cap, cur', e', hb', hh, r⟩⟩ := h
 ·exact ⟨q1, .inl q2⟩
 ·exact ⟨q1, .inr ⟨b, cap, cur', e', hb', hE.keep hb hh (fun c t f e => by cases e; exact ⟨h1, h2⟩), r⟩⟩
theorem GI.rules {base g : Nat} {W W' : World} {s : Gs} (h : GI base W g s) {E : Nat → Prop} (hE : RuE W E) (hb : But E W W') {v : Value} {l : List Ru} (hl : RL 136 base W' s.gr v l) : GI base W' g { s with vr := v, ls := l } := by
 obtain ⟨vs, q1, q2, q3, q4, q5⟩ := h.tb
 exact ⟨h.bs, hE.keep hb h.gc (fun c t f e => by cases e; exact ⟨by decide, by decide⟩), hl, ⟨vs, q1, q2, hE.keep hb q3 (fun c t f e => by cases e; exact ⟨by decide, by decide⟩), fun i hi => hE.own hb (q4 i hi) (by decide) (by decide), q5⟩, ⟨h.bl.1, hE.keep hb h.bl.2.1 (fun c t f e => by cases e; exact ⟨by decide, by decide⟩), hE.own hb h.bl.2.2 (by decide) (by decide)⟩, hE.keep hb h.fl (fun c t f e => by cases e), hE.keep hb h.pl (fun c t f e => by cases e)⟩
theorem RL.ruE {base : Nat} {W : World} {b : Nat} {v : Value} {l : List Ru} (h : RL 136 base W b v l) : RuE W (fun g => g = b ∨ v.ownBlock = some g) := fun g hg => by
 rcases hg with rfl | hg
 ·exact ⟨_, _, _, h.2.1, .inl rfl⟩
 ·obtain ⟨_, ⟨rfl, _⟩ | ⟨g', cap, cur, rfl, _, hh, _⟩⟩ := h.2.2
  ·cases hg
  ·cases hg
   exact ⟨_, _, _, hh, .inr rfl⟩
def mqR : Ru := ⟨1, 0, 167772160, 8, 16909060, 0, 0, 0⟩
theorem mq_wf : wfR mqR := by unfold wfR mqR; simp
theorem mq_ok : adE [] mqR = 0 := by decide +kernel
theorem mq_list : adL [] mqR = [mqR] := by rw [adL_yes mq_ok]; rfl
def encK (x : Int) : Array Value := #[.int .i64 x]
theorem keys_any (gf : Nat) (w : World) : Calls Tryz.prog 60 #[.map (some gf)] w fun e w' => e = .returned (.func (.func 114) #[] #[.pointer (some ⟨w.heap.size, 0, none⟩)]) ∧ w' = w.alloc (.cells #[.map (some gf)] 74) := by
 have hmf : ∀ (fn : Fn) (first cap : Array Value) (w : World), (Instr.makeFunc fn first cap).run Tryz.prog w = .ok (.func fn first cap) w := fun _ _ _ _ => rfl
 go_enter Tryz.func60, Tryz.ntmps60
 go_wp2_with fail
 go_ret
 exact ⟨rfl, rfl⟩
theorem insertO_none (sv : Value) (w : World) : Calls Tryz.prog 203 #[sv, .int .i64 0, .int .i64 0] w fun e w' => (∃ v, e = .returned v) ∧ w' = w := by
 go_enter Tryz.func203, Tryz.ntmps203
 go_wp2_with fail
 go_loopw [6] (fun i wr => i = .int .i64 1 ∧ wr = w) (fun _ _ => 0)
 case atStart => exact ⟨rfl, rfl⟩
 case round =>
  obtain ⟨rfl, rfl⟩ := hrel
  go_wp2_with fail
  go_end0
  exact ⟨⟨_, rfl⟩, rfl⟩
set_option maxHeartbeats 2000000 in
theorem pdqO_none (sv : Value) (lm : Int) (w : World) : Calls Tryz.prog 158 #[sv, .int .i64 0, .int .i64 0, .int .i64 lm] w fun e w' => (∃ v, e = .returned v) ∧ w' = w := by
 go_enter Tryz.func158, Tryz.ntmps158
 go_wp2_with fail
 go_loopw [1, 2] (fun a b wr => a = .int .i64 0 ∧ b = .int .i64 0 ∧ wr = w) (fun _ _ _ => 0)
 case atStart => exact ⟨rfl, rfl, rfl⟩
 case round =>
  obtain ⟨rfl, rfl, rfl⟩ := hrel
  go_wp2_with fail
  refine (insertO_none sv wr).mono ?_
  rintro e w1 ⟨⟨v, rfl⟩, rfl⟩
  go_wp2_with fail
  refine bodyPost_ret (results_none rfl _ _ _) rfl ?_
  exact ⟨⟨_, rfl⟩, rfl⟩
theorem ck_src (e : Bool) (p a : Int) (w : World) : (Instr.checkKey e 10000 187 (.agg #[.int .u8 p, .int .u32 a])).run Tryz.prog w = .ok () w := by kernel_rfl
theorem zero_pool (w : World) : (zeroValue 246).run Tryz.prog w = .ok (.pointer none) w := by kernel_rfl
theorem look_src {w : World} {b c : Nat} (hb : w.heap[b]? = some (.map #[] c)) (p a : Int) : (Instr.lookup 79 (.map (some b)) (.agg #[.int .u8 p, .int .u32 a]) false).run Tryz.prog w = .ok (.pointer none) w := by
 have hf : (Instr.findKey 187 (.agg #[.int .u8 p, .int .u32 a]) []).run Tryz.prog w = .ok none w := MapKept.run_findKey Tryz.underlying187 rfl
 simp [Instr.lookup, run_underlying Tryz.underlying79, MapKept.run_getObj_map hb, ck_src, hf, zero_pool, Result.andThen]
end Go.Proofs.YtofknbfbmaefoaaGreatDoor
namespace Go.Proofs.YtofknbfbmaefoaaGreatDoor.Pm
set_option maxRecDepth 100000
def pcn (n x : Nat) : Nat := (List.range n).countP (fun i => x.testBit i)
theorem tb (a b j : Nat) (h : b < 256) : (a * 256 + b).testBit j = if j < 8 then b.testBit j else a.testBit (j - 8) := by
 have := Nat.testBit_two_pow_mul_add a (b := b) (i := 8) (by simpa using h) j
 rw [show (2 : Nat) ^ 8 = 256 from rfl] at this
 rw [Nat.mul_comm a 256]
 exact this
def M (v : Nat) : Nat → Nat
 | 0 => 0
 | n + 1 => M v n * 256 + v
def f1 (n x : Nat) : Nat := (x / 2 &&& M 85 n) + (x &&& M 85 n)
def f2 (n x : Nat) : Nat := (x / 4 &&& M 51 n) + (x &&& M 51 n)
def f3 (n x : Nat) : Nat := (x / 16 + x) &&& M 15 n
def h1 (b : Nat) : Nat := (b / 2 &&& 85) + (b &&& 85)
def h2 (b : Nat) : Nat := (b / 4 &&& 51) + (b &&& 51)
def F (n x : Nat) : Nat := f3 n (f2 n (f1 n x))
end Go.Proofs.YtofknbfbmaefoaaGreatDoor.Pm
namespace Go.Proofs.YtofknbfbmaefoaaGreatDoor
open Go.RowKit Go.Shelf
set_option maxRecDepth 100000
set_option linter.unusedVariables false
set_option linter.unusedSimpArgs false
theorem pow_lt64 (n : Nat) : 2 ^ (n % 64) < 18446744073709551616 := by
 have : 2 ^ (n % 64) < 2 ^ 64 := Nat.pow_lt_pow_right (by omega) (Nat.mod_lt _ (by omega))
 simpa using this
theorem wrapN (x : Nat) (h : x < 18446744073709551616) : IntKind.u64.wrap (x : Int) = (x : Int) := by rw [IntKind.wrap_u64]; omega
set_option maxHeartbeats 1000000 in
theorem bit_any (n : Nat) (w : World) (hn : n < 65536) : Calls Tryz.prog 222 #[.int .u16 (n : Int)] w fun e w' => e = .returned (.int .u64 ((2 ^ (n % 64) : Nat) : Int)) ∧ w' = w := by
 have hp := wrapN (2 ^ (n % 64)) (pow_lt64 n)
 have HP := hide hp
 clear hp
 go_enter Tryz.func222, Tryz.ntmps222
 go_wp2_with fail
 go_ret
 refine ⟨?_, rfl⟩
 rw [← HP.out]
 simp
theorem s1 (x : Nat) (hx : x < 18446744073709551616) : IntKind.u64.wrap (bits BinOp.and IntKind.u64 ((x : Int) / 2) 6148914691236517205 + bits BinOp.and IntKind.u64 (x : Int) 6148914691236517205) = ((Pm.f1 8 x : Nat) : Int) ∧ Pm.f1 8 x ≤ 12297829382473034410 := by
 have e1 := bits_and_u64_nat (x / 2) 6148914691236517205 (by omega) (by omega)
 have e2 := bits_and_u64_nat x 6148914691236517205 hx (by omega)
 have h1 : x / 2 &&& 6148914691236517205 ≤ 6148914691236517205 := Nat.and_le_right
 have h2 : x &&& 6148914691236517205 ≤ 6148914691236517205 := Nat.and_le_right
 have e : Pm.f1 8 x = (x / 2 &&& 6148914691236517205) + (x &&& 6148914691236517205) := rfl
 rw [e, show (x : Int) / 2 = ((x / 2 : Nat) : Int) from by omega, show (6148914691236517205 : Int) = ((6148914691236517205 : Nat) : Int) from rfl, e1, e2, ← Int.natCast_add]
 exact ⟨wrapN _ (by omega), by omega⟩
theorem s2 (x : Nat) (hx : x < 18446744073709551616) : IntKind.u64.wrap (bits BinOp.and IntKind.u64 ((x : Int) / 4) 3689348814741910323 + bits BinOp.and IntKind.u64 (x : Int) 3689348814741910323) = ((Pm.f2 8 x : Nat) : Int) ∧ Pm.f2 8 x ≤ 7378697629483820646 := by
 have e1 := bits_and_u64_nat (x / 4) 3689348814741910323 (by omega) (by omega)
 have e2 := bits_and_u64_nat x 3689348814741910323 hx (by omega)
 have h1 : x / 4 &&& 3689348814741910323 ≤ 3689348814741910323 := Nat.and_le_right
 have h2 : x &&& 3689348814741910323 ≤ 3689348814741910323 := Nat.and_le_right
 have e : Pm.f2 8 x = (x / 4 &&& 3689348814741910323) + (x &&& 3689348814741910323) := rfl
 rw [e, show (x : Int) / 4 = ((x / 4 : Nat) : Int) from by omega, show (3689348814741910323 : Int) = ((3689348814741910323 : Nat) : Int) from rfl, e1, e2, ← Int.natCast_add]
 exact ⟨wrapN _ (by omega), by omega⟩
theorem s3 (x : Nat) (hx : x ≤ 7378697629483820646) : bits BinOp.and IntKind.u64 (IntKind.u64.wrap ((x : Int) / 16 + (x : Int))) 1085102592571150095 = ((Pm.f3 8 x : Nat) : Int) := by
 have e : Pm.f3 8 x = (x / 16 + x) &&& 1085102592571150095 := rfl
 rw [e, show (x : Int) / 16 + (x : Int) = ((x / 16 + x : Nat) : Int) from by omega, wrapN _ (by omega)]
 exact bits_and_u64_nat (x / 16 + x) 1085102592571150095 (by omega) (by omega)
def pcl (low high : Int) (ws : Nat → Nat) : List Value := .int .u16 low :: .int .u16 high :: (List.range 1024).map (fun i => .int .u64 (ws i : Int))
def PB (base : Nat) (W : World) (b : Nat) (low high : Int) (ws : Nat → Nat) : Prop := base ≤ b ∧ (∀ i, ws i < 18446744073709551616) ∧ W.heap[b]? = some (.cells (pcl low high ws).toArray 291 (0, 0))
theorem PB.later {base : Nat} {A B : World} {b : Nat} {low high : Int} {ws : Nat → Nat} (h : PB base A b low high ws) (l : Later A B) : PB base B b low high ws := ⟨h.1, h.2.1, later_keep l h.2.2⟩
theorem PB.lt {base : Nat} {W : World} {b : Nat} {low high : Int} {ws : Nat → Nat} (h : PB base W b low high ws) : b < W.heap.size := (bl9 h.2.2)
theorem PB.word {base : Nat} {W : World} {b : Nat} {low high : Int} {ws : Nat → Nat} (h : PB base W b low high ws) (i : Nat) (hi : i < 1024) : W.cell? ⟨b, 2 + i, none⟩ = some (.int .u64 (ws i : Int)) := by
 rw [block_cell h.2.2, List.getElem?_toArray]
 unfold pcl
 rw [show 2 + i = i + 1 + 1 from by omega, List.getElem?_cons_succ, List.getElem?_cons_succ, List.getElem?_map, List.getElem?_range hi]
 rfl
theorem PB.low {base : Nat} {W : World} {b : Nat} {low high : Int} {ws : Nat → Nat} (h : PB base W b low high ws) : W.cell? ⟨b, 0, none⟩ = some (.int .u16 low) := by
 rw [block_cell h.2.2]; rfl
theorem PB.high {base : Nat} {W : World} {b : Nat} {low high : Int} {ws : Nat → Nat} (h : PB base W b low high ws) : W.cell? ⟨b, 1, none⟩ = some (.int .u16 high) := by
 rw [block_cell h.2.2]; rfl
def upd (ws : Nat → Nat) (i x : Nat) : Nat → Nat := fun j => if j = i then x else ws j
theorem pcl_set (low high : Int) (ws : Nat → Nat) (i x : Nat) (hi : i < 1024) : (pcl low high ws).toArray.setIfInBounds (2 + i) (.int .u64 (x : Int)) = (pcl low high (upd ws i x)).toArray := by
 rw [List.setIfInBounds_toArray]
 congr 1
 unfold pcl
 rw [show 2 + i = i + 1 + 1 from by omega, List.set_cons_succ, List.set_cons_succ]
 congr 2
 apply List.ext_getElem?
 intro j
 rw [List.getElem?_set, List.getElem?_map, List.getElem?_map]
 unfold upd
 by_cases hj : i = j
 ·subst hj
  rw [if_pos rfl, List.getElem?_range hi]
  simp [hi]
 ·rw [if_neg hj]
  by_cases hl : j < 1024
  ·rw [List.getElem?_range hl]
   simp [Ne.symm hj]
  ·rw [List.getElem?_eq_none (by simp; omega)]
   rfl
def fr (ws : Nat → Nat) (n : Nat) : Bool := (ws (n / 64)).testBit (n % 64)
theorem and_pow (x i : Nat) : (x &&& 2 ^ i ≠ 0) ↔ x.testBit i = true := by
 constructor
 ·intro h
  cases hb : x.testBit i with
  | true => rfl
  | false =>
   refine absurd (Nat.eq_of_testBit_eq fun j => ?_) h
   rw [Nat.testBit_and, Nat.testBit_two_pow, Nat.zero_testBit]
   by_cases hj : i = j
   ·subst hj
    rw [hb]
    rfl
   ·simp [hj]
 ·intro h e
  have := congrArg (fun y => Nat.testBit y i) e
  simp [Nat.testBit_and, Nat.testBit_two_pow, h] at this
theorem wrap16 (n : Nat) (hn : n < 65536) : IntKind.u16.wrap ((n : Int) / 64) = ((n / 64 : Nat) : Int) := by
 have : IntKind.u16.wrap ((n : Int) / 64) = ((n : Int) / 64) % 65536 := by simp [IntKind.wrap, IntKind.signed, IntKind.bits]
 rw [this]
 omega
set_option maxHeartbeats 2000000 in
theorem has_any (base b : Nat) (low high : Int) (ws : Nat → Nat) (n : Nat) (w : World) (hT : PB base w b low high ws) (hn : n < 65536) :
  Calls Tryz.prog 221 #[.pointer (some ⟨b, 2, none⟩), .int .u16 (n : Int)] w fun e w' => e = .returned (.bool (fr ws n)) ∧ Later w w' := by
 have HW := hide (wrap16 n hn)
 have hq2 : n / 64 < 1024 := by omega
 have hq3 : ((n / 64 : Nat) : Int) < 1024 := by omega
 have hlt := pow_lt64 n
 have hwl := hT.2.1 (n / 64)
 have HAN := hide (bits_and_u64_nat (ws (n / 64)) (2 ^ (n % 64)) hwl hlt)
 have HFR : Hid (fr ws n = decide (¬ ((ws (n / 64) &&& 2 ^ (n % 64) : Nat) : Int) = 0)) := by
  show _ = _
  rw [Bool.eq_iff_iff, decide_eq_true_iff]
  unfold fr
  rw [← and_pow]
  omega
 have HB := hide (fun W => bit_any n W hn)
 have HQ := hide (fun v1 (h : Later w v1) => (hT.later h).word (n / 64) hq2)
 clear hlt hwl hq2
 generalize n / 64 = i at *
 generalize 2 ^ (n % 64) = c at *
 have hi0 : (0 : Int) ≤ (i : Int) := by omega
 have hi1 : (i : Int) < 1024 := by omega
 clear hq3
 go_enter Tryz.func221, Tryz.ntmps221
 go_upto_region 1 with fail
 refine anyR_begin (R := Later) Later.pre Later.drew 12 rfl (by kernel_rfl) (fun V1 hV1 => ?_)
 have q1 : ∀ v1, Later V1 v1 → v1.cell? ⟨b, 2 + i, none⟩ = some (.int .u64 (ws i : Int)) := fun v1 h => HQ.out v1 (hV1.trans h)
 refine rV Later.pre 0 rfl rfl ⟨_, fun v h => by (go_simp; rfl), ?_⟩; simp only [Act.put, sA, sB, sC]
 refine rV Later.pre 1 rfl rfl ⟨_, fun v h => by (go_simp; rfl), ?_⟩; simp only [Act.put, sA, sB, sC]
 refine rV Later.pre 2 rfl rfl ⟨_, fun v h => by (go_simp; rfl), ?_⟩; simp only [Act.put, sA, sB, sC]
 rw [HW.out]
 refine rV Later.pre 3 rfl rfl ⟨_, fun v h => by (go_simp; rfl), ?_⟩; simp only [Act.put, sA, sB, sC]
 refine rV Later.pre 4 rfl rfl ⟨_, fun v h => by (go_simp; rfl), ?_⟩; simp only [Act.put, sA, sB, sC]
 refine rV Later.pre 5 rfl rfl ⟨_, fun v h => by (go_simp; rfl), ?_⟩; simp only [Act.put, sA, sB, sC]
 refine rV Later.pre 6 rfl rfl ⟨_, fun v h => by (go_simp; rfl), ?_⟩; simp only [Act.put, sA, sB, sC]
 refine rV Later.pre 7 rfl rfl ⟨_, fun v h => by (go_simp; rfl), ?_⟩; simp only [Act.put, sA, sB, sC]
 clear q1
 refine anyR_take Later.pre 8 (.int .u64 (c : Int)) rfl (by kernel_rfl) (by kernel_rfl) (by kernel_rfl) (fun _ _ _ h => h) rfl (fun w1 hw1 => goes_call 222 #[.int .u16 (n : Int)] (by go_simp) ((HB.out w1).mono fun e w2 h => ⟨h.1, by rw [h.2]; exact Later.refl _⟩)) ?_
 simp only [Act.put, sA, sB, sC]
 refine rV Later.pre 9 rfl rfl ⟨_, fun v h => by (go_simp; rfl), ?_⟩; simp only [Act.put, sA, sB, sC]
 rw [HAN.out]
 generalize ws i &&& c = z at *
 refine rV Later.pre 10 rfl rfl ⟨_, fun v h => by (go_simp; rfl), ?_⟩; simp only [Act.put, sA, sB, sC]
 refine rV Later.pre 11 rfl rfl ⟨_, fun v h => by (go_simp; rfl), ?_⟩; simp only [Act.put, sA, sB, sC]
 refine anyR_done (by kernel_rfl) (fun V2 hV2 => ?_)
 have L2 := hV1.trans hV2
 go_wp2_with fail
 go_ret
 refine ⟨?_, L2⟩
 rw [HFR.out]
 by_cases hz : z = 0 <;> simp [hz]
theorem add_lt {x c : Nat} (hx : x < 18446744073709551616) (hc : c < 18446744073709551616) : x ||| c < 18446744073709551616 := by
 have := Nat.or_lt_two_pow (n := 64) (x := x) (y := c) (by omega) (by omega)
 simpa using this
theorem remove_lt {x c : Nat} (hx : x < 18446744073709551616) (hc : c < 18446744073709551616) : x &&& (18446744073709551615 - c) < 18446744073709551616 := Nat.lt_of_le_of_lt Nat.and_le_left hx
set_option maxHeartbeats 2000000 in
theorem add_any (base b : Nat) (low high : Int) (ws : Nat → Nat) (n : Nat) (w : World) (hT : PB base w b low high ws) (hn : n < 65536) :
  Calls Tryz.prog 182 #[.pointer (some ⟨b, 2, none⟩), .int .u16 (n : Int)] w fun e w' => (∃ v, e = .returned v) ∧ PB base w' b low high (upd ws (n / 64) (ws (n / 64) ||| 2 ^ (n % 64))) ∧ But (fun g => g = b) w w' := by
 have HW := hide (wrap16 n hn)
 have hq2 : n / 64 < 1024 := by omega
 have hq3 : ((n / 64 : Nat) : Int) < 1024 := by omega
 have hlt := pow_lt64 n
 have hwl := hT.2.1 (n / 64)
 have HAN := hide (bits_or_u64_nat (ws (n / 64)) (2 ^ (n % 64)) hwl hlt)
 have HLT : Hid (ws (n / 64) ||| 2 ^ (n % 64) < 18446744073709551616) := add_lt hwl hlt
 have HB := hide (fun W => bit_any n W hn)
 have HQ := hide (fun v1 (h : PB base v1 b low high ws) => h.word (n / 64) hq2)
 have HST := hide (fun x : Nat => pcl_set low high ws (n / 64) x hq2)
 clear hlt hwl hq2
 generalize n / 64 = i at *
 generalize 2 ^ (n % 64) = c at *
 have hi0 : (0 : Int) ≤ (i : Int) := by omega
 have hi1 : (i : Int) < 1024 := by omega
 clear hq3
 go_enter Tryz.func182, Tryz.ntmps182
 refine anyU_begin (R1 := Later) (R2 := But (fun g => g = b)) (D := [13]) 14 rfl (by kernel_rfl) ?_
 have ld : Later w w.drew := Later.drew w
 have hTd := hT.later ld
 generalize w.drew = Wd at *
 have q1 : ∀ v1, Later Wd v1 → v1.cell? ⟨b, 2 + i, none⟩ = some (.int .u64 (ws i : Int)) := fun v1 h => HQ.out v1 (hTd.later h)
 refine uP Later.refl (But.refl _) 0 rfl (by rfl) ⟨_, fun v => by (go_simp; rfl), ?_⟩; simp only [Act.put, sA, sB, sC]
 refine uP Later.refl (But.refl _) 1 rfl (by rfl) ⟨_, fun v => by (go_simp; rfl), ?_⟩; simp only [Act.put, sA, sB, sC]
 refine uP Later.refl (But.refl _) 2 rfl (by rfl) ⟨_, fun v => by (go_simp; rfl), ?_⟩; simp only [Act.put, sA, sB, sC]
 rw [HW.out]
 refine uP Later.refl (But.refl _) 3 rfl (by rfl) ⟨_, fun v => by (go_simp; rfl), ?_⟩; simp only [Act.put, sA, sB, sC]
 refine uP Later.refl (But.refl _) 4 rfl (by rfl) ⟨_, fun v => by (go_simp; rfl), ?_⟩; simp only [Act.put, sA, sB, sC]
 refine uP Later.refl (But.refl _) 5 rfl (by rfl) ⟨_, fun v => by (go_simp; rfl), ?_⟩; simp only [Act.put, sA, sB, sC]
 refine anyU_val Later.pre 6 [9, 13] rfl (by rfl) (by rfl) (by kernel_rfl) (by kernel_rfl) (by kernel_rfl) (by kernel_rfl) (by kernel_rfl) (fun _ _ _ _ h => h) (by rfl) ⟨_, fun v h => by (go_simp; rfl), ?_⟩; simp only [Act.put, sA, sB, sC]
 refine uP Later.refl (But.refl _) 7 rfl (by rfl) ⟨_, fun v => by (go_simp; rfl), ?_⟩; simp only [Act.put, sA, sB, sC]
 refine uP Later.refl (But.refl _) 10 rfl (by rfl) ⟨_, fun v => by (go_simp; rfl), ?_⟩; simp only [Act.put, sA, sB, sC]
 refine uP Later.refl (But.refl _) 11 rfl (by rfl) ⟨_, fun v => by (go_simp; rfl), ?_⟩; simp only [Act.put, sA, sB, sC]
 clear q1
 refine anyU_one 8 rfl (by kernel_rfl) (by rfl) ?_
 refine wp_enter 222 #[.int .u16 (n : Int)] (by go_simp) ?_
 refine (HB.out Wd).mono ?_
 rintro e W1 ⟨rfl, rfl⟩
 refine ⟨Rj_out (by rfl) (Later.refl _), ?_⟩
 simp only [Act.put, sA, sB, sC]
 refine uP Later.refl (But.refl _) 9 rfl (by rfl) ⟨_, fun v => by (go_simp; rfl), ?_⟩; simp only [Act.put, sA, sB, sC]
 rw [HAN.out]
 refine uP Later.refl (But.refl _) 12 rfl (by rfl) ⟨_, fun v => by (go_simp; rfl), ?_⟩; simp only [Act.put, sA, sB, sC]
 have hfin : PB base (W1.setCell ⟨b, 2 + i, none⟩ (.int .u64 ((ws i ||| c : Nat) : Int))) b low high (upd ws i (ws i ||| c)) := by
  refine ⟨hTd.1, fun j => ?_, ?_⟩
  ·unfold upd
   split
   ·exact HLT.out
   ·exact hTd.2.1 j
  ·rw [← HST.out]
   exact heap_set1 hTd.2.2 (2 + i) _
 have hbS : But (fun g => g = b) W1 (W1.setCell ⟨b, 2 + i, none⟩ (.int .u64 ((ws i ||| c : Nat) : Int))) := (But.refl (fun g => g = b) _).setCell (p := ⟨b, 2 + i, none⟩) rfl _
 have F1 := block_frozen hTd.2.2
 have k1 := HQ.out W1 hTd
 have HF := hide hfin
 have HBS := hide hbS
 clear hfin hbS
 generalize hzz : ws i ||| c = z at *
 refine anyU_one 13 rfl (by kernel_rfl) (by rfl) ?_
 unfold Oper.wp
 go_simp
 refine ⟨Rj_in (by rfl) HBS.out, ?_⟩
 refine anyU_done (by kernel_rfl) ?_
 generalize hV : World.setCell _ _ _ = V at *
 go_end0
 exact ⟨⟨_, rfl⟩, HF.out, (But.of ld).trans HBS.out⟩
set_option maxHeartbeats 2000000 in
theorem remove_any (base b : Nat) (low high : Int) (ws : Nat → Nat) (n : Nat) (w : World) (hT : PB base w b low high ws) (hn : n < 65536) :
  Calls Tryz.prog 278 #[.pointer (some ⟨b, 2, none⟩), .int .u16 (n : Int)] w fun e w' => (∃ v, e = .returned v) ∧ PB base w' b low high (upd ws (n / 64) (ws (n / 64) &&& (18446744073709551615 - 2 ^ (n % 64)))) ∧ But (fun g => g = b) w w' := by
 have HW := hide (wrap16 n hn)
 have hq2 : n / 64 < 1024 := by omega
 have hq3 : ((n / 64 : Nat) : Int) < 1024 := by omega
 have hlt := pow_lt64 n
 have hwl := hT.2.1 (n / 64)
 have HAN := hide (u64_andNot_nat (ws (n / 64)) (2 ^ (n % 64)) hwl hlt)
 have HLT : Hid (ws (n / 64) &&& (18446744073709551615 - 2 ^ (n % 64)) < 18446744073709551616) := remove_lt hwl hlt
 have HB := hide (fun W => bit_any n W hn)
 have HQ := hide (fun v1 (h : PB base v1 b low high ws) => h.word (n / 64) hq2)
 have HST := hide (fun x : Nat => pcl_set low high ws (n / 64) x hq2)
 clear hlt hwl hq2
 generalize n / 64 = i at *
 generalize 2 ^ (n % 64) = c at *
 have hi0 : (0 : Int) ≤ (i : Int) := by omega
 have hi1 : (i : Int) < 1024 := by omega
 clear hq3
 go_enter Tryz.func278, Tryz.ntmps278
 refine anyU_begin (R1 := Later) (R2 := But (fun g => g = b)) (D := [13]) 14 rfl (by kernel_rfl) ?_
 have ld : Later w w.drew := Later.drew w
 have hTd := hT.later ld
 generalize w.drew = Wd at *
 have q1 : ∀ v1, Later Wd v1 → v1.cell? ⟨b, 2 + i, none⟩ = some (.int .u64 (ws i : Int)) := fun v1 h => HQ.out v1 (hTd.later h)
 refine uP Later.refl (But.refl _) 0 rfl (by rfl) ⟨_, fun v => by (go_simp; rfl), ?_⟩; simp only [Act.put, sA, sB, sC]
 refine uP Later.refl (But.refl _) 1 rfl (by rfl) ⟨_, fun v => by (go_simp; rfl), ?_⟩; simp only [Act.put, sA, sB, sC]
 refine uP Later.refl (But.refl _) 2 rfl (by rfl) ⟨_, fun v => by (go_simp; rfl), ?_⟩; simp only [Act.put, sA, sB, sC]
 rw [HW.out]
 refine uP Later.refl (But.refl _) 3 rfl (by rfl) ⟨_, fun v => by (go_simp; rfl), ?_⟩; simp only [Act.put, sA, sB, sC]
 refine uP Later.refl (But.refl _) 4 rfl (by rfl) ⟨_, fun v => by (go_simp; rfl), ?_⟩; simp only [Act.put, sA, sB, sC]
 refine uP Later.refl (But.refl _) 5 rfl (by rfl) ⟨_, fun v => by (go_simp; rfl), ?_⟩; simp only [Act.put, sA, sB, sC]
 refine anyU_val Later.pre 6 [9, 13] rfl (by rfl) (by rfl) (by kernel_rfl) (by kernel_rfl) (by kernel_rfl) (by kernel_rfl) (by kernel_rfl) (fun _ _ _ _ h => h) (by rfl) ⟨_, fun v h => by (go_simp; rfl), ?_⟩; simp only [Act.put, sA, sB, sC]
 refine uP Later.refl (But.refl _) 7 rfl (by rfl) ⟨_, fun v => by (go_simp; rfl), ?_⟩; simp only [Act.put, sA, sB, sC]
 refine uP Later.refl (But.refl _) 10 rfl (by rfl) ⟨_, fun v => by (go_simp; rfl), ?_⟩; simp only [Act.put, sA, sB, sC]
 refine uP Later.refl (But.refl _) 11 rfl (by rfl) ⟨_, fun v => by (go_simp; rfl), ?_⟩; simp only [Act.put, sA, sB, sC]
 clear q1
 refine anyU_one 8 rfl (by kernel_rfl) (by rfl) ?_
 refine wp_enter 222 #[.int .u16 (n : Int)] (by go_simp) ?_
 refine (HB.out Wd).mono ?_
 rintro e W1 ⟨rfl, rfl⟩
 refine ⟨Rj_out (by rfl) (Later.refl _), ?_⟩
 simp only [Act.put, sA, sB, sC]
 refine uP Later.refl (But.refl _) 9 rfl (by rfl) ⟨_, fun v => by (go_simp; rfl), ?_⟩; simp only [Act.put, sA, sB, sC]
 rw [HAN.out]
 refine uP Later.refl (But.refl _) 12 rfl (by rfl) ⟨_, fun v => by (go_simp; rfl), ?_⟩; simp only [Act.put, sA, sB, sC]
 have hfin : PB base (W1.setCell ⟨b, 2 + i, none⟩ (.int .u64 ((ws i &&& (18446744073709551615 - c) : Nat) : Int))) b low high (upd ws i (ws i &&& (18446744073709551615 - c))) := by
  refine ⟨hTd.1, fun j => ?_, ?_⟩
  ·unfold upd
   split
   ·exact HLT.out
   ·exact hTd.2.1 j
  ·rw [← HST.out]
   exact heap_set1 hTd.2.2 (2 + i) _
 have hbS : But (fun g => g = b) W1 (W1.setCell ⟨b, 2 + i, none⟩ (.int .u64 ((ws i &&& (18446744073709551615 - c) : Nat) : Int))) := (But.refl (fun g => g = b) _).setCell (p := ⟨b, 2 + i, none⟩) rfl _
 have F1 := block_frozen hTd.2.2
 have k1 := HQ.out W1 hTd
 have HF := hide hfin
 have HBS := hide hbS
 clear hfin hbS
 generalize hzz : ws i &&& (18446744073709551615 - c) = z at *
 refine anyU_one 13 rfl (by kernel_rfl) (by rfl) ?_
 unfold Oper.wp
 go_simp
 refine ⟨Rj_in (by rfl) HBS.out, ?_⟩
 refine anyU_done (by kernel_rfl) ?_
 generalize hV : World.setCell _ _ _ = V at *
 go_end0
 exact ⟨⟨_, rfl⟩, HF.out, (But.of ld).trans HBS.out⟩
theorem div_mod_eq {m n : Nat} (h1 : m / 64 = n / 64) (h2 : m % 64 = n % 64) : m = n := by omega
theorem fr_add (ws : Nat → Nat) (n m : Nat) : fr (upd ws (n / 64) (ws (n / 64) ||| 2 ^ (n % 64))) m = (fr ws m || decide (m = n)) := by
 unfold fr upd
 by_cases h : m / 64 = n / 64
 ·rw [if_pos h, Nat.testBit_or, Nat.testBit_two_pow, h]
  congr 1
  rw [decide_eq_decide]
  constructor
  ·intro e; exact div_mod_eq h e.symm
  ·intro e; rw [e]
 ·rw [if_neg h]
  have : ¬ m = n := fun e => h (by rw [e])
  simp [this]
theorem fr_remove (ws : Nat → Nat) (n m : Nat) : fr (upd ws (n / 64) (ws (n / 64) &&& (18446744073709551615 - 2 ^ (n % 64)))) m = (fr ws m && !decide (m = n)) := by
 unfold fr upd
 by_cases h : m / 64 = n / 64
 ·rw [if_pos h, Nat.testBit_and, h]
  have hp := pow_lt64 n
  have e := Nat.testBit_two_pow_sub_succ (n := 64) (x := 2 ^ (n % 64)) (by simpa using hp) (m % 64)
  rw [show (2 : Nat) ^ 64 - (2 ^ (n % 64) + 1) = 18446744073709551615 - 2 ^ (n % 64) from by omega] at e
  rw [e, Nat.testBit_two_pow]
  have hm : m % 64 < 64 := Nat.mod_lt _ (by omega)
  have : decide (n % 64 = m % 64) = decide (m = n) := by
   rw [decide_eq_decide]
   constructor
   ·intro e; exact div_mod_eq h e.symm
   ·intro e; rw [e]
  rw [this]
  simp [hm]
 ·rw [if_neg h]
  have : ¬ m = n := fun e => h (by rw [e])
  simp [this]
attribute [local go_sem] Oper.semAt_some
def cnt (ws : Nat → Nat) : Nat → Nat
 | 0 => 0
 | k + 1 => cnt ws k + Pm.pcn 64 (ws k)
end Go.Proofs.YtofknbfbmaefoaaGreatDoor
