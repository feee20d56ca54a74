/- Package ctrl: what a packet's frame is. -/
import Derived.ChangeKeysEq
import Derived.Test.YtcdeiakeiehaaaaDoorW9
import Derived.Test.YtcdeiakeiehaaaaDoorCD
namespace Go.Proofs.YtcdeiakeiehaaaaDoor
open Go.RowKit Go.Shelf
set_option maxRecDepth 100000
set_option linter.unusedVariables false
set_option linter.unusedSimpArgs false

theorem equalIn_u8 (dd : Nat) (x y : Int) (w : World) : (Op.equalIn (dd + 1) 5 (.int .u8 x) (.int .u8 y)).run Tryd.prog w = .ok (x == y) w := by
  have hu := Tryd.underlying5
  simp [Op.equalIn, run_underlying hu]

theorem eqItems_u8 (j : Nat) (is : List Nat) (xs ys : Array Value) (x y : Int) (w : World) (hx : xs[j]? = some (.int .u8 x)) (hy : ys[j]? = some (.int .u8 y)) :
    (Op.eqItems 9999 5 1 xs ys (j :: is)).run Tryd.prog w = if (x == y) = true then (Op.eqItems 9999 5 1 xs ys is).run Tryd.prog w else .ok false w := by
  obtain ⟨i0, hi, hz0, hz1, hz2⟩ := info_parts info_u8
  have hu := Tryd.underlying5
  have hpx : (part 5 xs (j * 1)).run Tryd.prog w = .ok (.int .u8 x) w := by
    obtain ⟨hlt, hxe⟩ := Array.getElem?_eq_some_iff.1 hx
    simp [part, run_sizeOf w hi, hz1, hx, hlt, hxe, go_sem]
  have hpy : (part 5 ys (j * 1)).run Tryd.prog w = .ok (.int .u8 y) w := by
    obtain ⟨hlt, hxe⟩ := Array.getElem?_eq_some_iff.1 hy
    simp [part, run_sizeOf w hi, hz1, hy, hlt, hxe, go_sem]
  have he : (Op.equalIn 9999 5 (.int .u8 x) (.int .u8 y)).run Tryd.prog w = .ok (x == y) w := equalIn_u8 9998 x y w
  simp only [Op.eqItems, Sem.run_bind, hpx, hpy, he, Result.andThen_ok]
  cases (x == y) <;> simp

theorem equal4 (a b c d x y z u : Int) (w : World) : (Op.equalIn 10000 52 (.agg #[.int .u8 a, .int .u8 b, .int .u8 c, .int .u8 d]) (.agg #[.int .u8 x, .int .u8 y, .int .u8 z, .int .u8 u])).run Tryd.prog w = .ok (a == x && (b == y && (c == z && d == u))) w := by
  obtain ⟨i0, hi, hz0, hz1, hz2⟩ := info_parts info_u8
  have hc : Tryd.prog.cellsOf 5 = 1 := by kernel_rfl
  have h := run_equalIn_array (P := Tryd.prog) (w := w) 9999 #[.int .u8 a, .int .u8 b, .int .u8 c, .int .u8 d] #[.int .u8 x, .int .u8 y, .int .u8 z, .int .u8 u] Tryd.underlying52 hi
  rw [hc, show List.range 4 = [0, 1, 2, 3] from rfl, eqItems_u8 0 _ _ _ a x w rfl rfl, eqItems_u8 1 _ _ _ b y w rfl rfl, eqItems_u8 2 _ _ _ c z w rfl rfl, eqItems_u8 3 _ _ _ d u w rfl rfl] at h
  rw [h]
  cases (a == x) <;> cases (b == y) <;> cases (c == z) <;> cases (d == u) <;> simp [Op.eqItems]

theorem idx_0 (w : World) : (Instr.index 53 (.agg #[.int .u8 32, .int .u8 1, .int .u8 136, .int .u8 11, .int .u8 48, .int .u8 1, .int .u8 136, .int .u8 11, .int .u8 32, .int .u8 129, .int .u8 136, .int .u8 11, .int .u8 48, .int .u8 129, .int .u8 136, .int .u8 11]) (.int .i64 0)).run Tryd.prog w = .ok (.agg #[.int .u8 32, .int .u8 1, .int .u8 136, .int .u8 11]) w := by kernel_rfl

theorem idx_1 (w : World) : (Instr.index 53 (.agg #[.int .u8 32, .int .u8 1, .int .u8 136, .int .u8 11, .int .u8 48, .int .u8 1, .int .u8 136, .int .u8 11, .int .u8 32, .int .u8 129, .int .u8 136, .int .u8 11, .int .u8 48, .int .u8 129, .int .u8 136, .int .u8 11]) (.int .i64 1)).run Tryd.prog w = .ok (.agg #[.int .u8 48, .int .u8 1, .int .u8 136, .int .u8 11]) w := by kernel_rfl

theorem idx_2 (w : World) : (Instr.index 53 (.agg #[.int .u8 32, .int .u8 1, .int .u8 136, .int .u8 11, .int .u8 48, .int .u8 1, .int .u8 136, .int .u8 11, .int .u8 32, .int .u8 129, .int .u8 136, .int .u8 11, .int .u8 48, .int .u8 129, .int .u8 136, .int .u8 11]) (.int .i64 2)).run Tryd.prog w = .ok (.agg #[.int .u8 32, .int .u8 129, .int .u8 136, .int .u8 11]) w := by kernel_rfl

theorem idx_3 (w : World) : (Instr.index 53 (.agg #[.int .u8 32, .int .u8 1, .int .u8 136, .int .u8 11, .int .u8 48, .int .u8 1, .int .u8 136, .int .u8 11, .int .u8 32, .int .u8 129, .int .u8 136, .int .u8 11, .int .u8 48, .int .u8 129, .int .u8 136, .int .u8 11]) (.int .i64 3)).run Tryd.prog w = .ok (.agg #[.int .u8 48, .int .u8 129, .int .u8 136, .int .u8 11]) w := by kernel_rfl

/-- Which of the four beginnings it is; 4: none. -/
def pick4 (e0 e1 e2 e3 : Bool) : Nat := bif e0 then 0 else bif e1 then 1 else bif e2 then 2 else bif e3 then 3 else 4
theorem pick4_le : ∀ (e0 e1 e2 e3 : Bool), pick4 e0 e1 e2 e3 ≤ 4 := by decide
theorem pick4_0 : ∀ (e0 e1 e2 e3 : Bool), 0 ≤ pick4 e0 e1 e2 e3 → e0 = decide (pick4 e0 e1 e2 e3 = 0) := by decide
theorem pick4_1 : ∀ (e0 e1 e2 e3 : Bool), 1 ≤ pick4 e0 e1 e2 e3 → e1 = decide (pick4 e0 e1 e2 e3 = 1) := by decide
theorem pick4_2 : ∀ (e0 e1 e2 e3 : Bool), 2 ≤ pick4 e0 e1 e2 e3 → e2 = decide (pick4 e0 e1 e2 e3 = 2) := by decide
theorem pick4_3 : ∀ (e0 e1 e2 e3 : Bool), 3 ≤ pick4 e0 e1 e2 e3 → e3 = decide (pick4 e0 e1 e2 e3 = 3) := by decide
def bgo (a b c d : Int) : Nat := pick4 (a == 32 && (b == 1 && (c == 136 && d == 11))) (a == 48 && (b == 1 && (c == 136 && d == 11))) (a == 32 && (b == 129 && (c == 136 && d == 11))) (a == 48 && (b == 129 && (c == 136 && d == 11)))
def bgv (n : Nat) : Int := if n = 4 then 0 else n
def bgk (n : Nat) : Bool := n != 4
theorem bgo_le (a b c d : Int) : bgo a b c d ≤ 4 := pick4_le _ _ _ _
theorem bgo_0 (a b c d : Int) (h : 0 ≤ bgo a b c d) : (a == 32 && (b == 1 && (c == 136 && d == 11))) = decide (bgo a b c d = 0) := pick4_0 _ _ _ _ h
theorem bgo_1 (a b c d : Int) (h : 1 ≤ bgo a b c d) : (a == 48 && (b == 1 && (c == 136 && d == 11))) = decide (bgo a b c d = 1) := pick4_1 _ _ _ _ h
theorem bgo_2 (a b c d : Int) (h : 2 ≤ bgo a b c d) : (a == 32 && (b == 129 && (c == 136 && d == 11))) = decide (bgo a b c d = 2) := pick4_2 _ _ _ _ h
theorem bgo_3 (a b c d : Int) (h : 3 ≤ bgo a b c d) : (a == 48 && (b == 129 && (c == 136 && d == 11))) = decide (bgo a b c d = 3) := pick4_3 _ _ _ _ h

set_option maxHeartbeats 4000000 in
theorem bitsOf_any (a b c d : Int) (w : World) (hT : Tb w) :
    Calls Tryd.prog 32 #[.agg #[.int .u8 a, .int .u8 b, .int .u8 c, .int .u8 d]] w fun e w' => e = .returned (.tuple #[.int .i64 (bgv (bgo a b c d)), .bool (bgk (bgo a b c d))]) ∧ Below w.heap.size w w' := by
  have hb0 : Below w.heap.size w (w.alloc (.cells #[.int .u8 a, .int .u8 b, .int .u8 c, .int .u8 d] 52)) := (Below.refl _ _).alloc (Nat.le_refl _) _
  have hk0 := heap_alloc_new w (.cells #[.int .u8 a, .int .u8 b, .int .u8 c, .int .u8 d] 52)
  have HK := hide hk0
  clear hk0
  have hT0 := hT.below hb0 hT.pos
  have t0 := hT0 0 (by omega)
  have t1 := hT0 1 (by omega)
  have t2 := hT0 2 (by omega)
  have t3 := hT0 3 (by omega)
  have t4 := hT0 4 (by omega)
  have t5 := hT0 5 (by omega)
  have t6 := hT0 6 (by omega)
  have t7 := hT0 7 (by omega)
  have t8 := hT0 8 (by omega)
  have t9 := hT0 9 (by omega)
  have t10 := hT0 10 (by omega)
  have t11 := hT0 11 (by omega)
  have t12 := hT0 12 (by omega)
  have t13 := hT0 13 (by omega)
  have t14 := hT0 14 (by omega)
  have t15 := hT0 15 (by omega)
  simp [tab] at t0 t1 t2 t3 t4 t5 t6 t7 t8 t9 t10 t11 t12 t13 t14 t15
  have hle := bgo_le a b c d
  go_enter Tryd.func32, Tryd.ntmps32
  go_wp2
  clear t0 t1 t2 t3 t4 t5 t6 t7 t8 t9 t10 t11 t12 t13 t14 t15
  go_loopw [7] (fun i wr => ∃ k : Nat, k ≤ 4 ∧ i = .int .i64 (k : Int) ∧ k ≤ bgo a b c d ∧ wr.heap[w.heap.size]? = some (.cells #[.int .u8 a, .int .u8 b, .int .u8 c, .int .u8 d] 52 (0, 0)) ∧ Below w.heap.size w wr)
    (fun i _ => 4 - (intOf i).toNat)
  case atStart => exact ⟨0, by omega, rfl, by omega, HK.out, hb0⟩
  case round =>
    obtain ⟨k, hk4, rfl, hkb, hbk, hnx⟩ := hrel
    have hcase : k = 4 ∨ k = 0 ∨ k = 1 ∨ k = 2 ∨ k = 3 := by omega
    rcases hcase with rfl | rfl | rfl | rfl | rfl
    · have hd : bgo a b c d = 4 := by omega
      have HD := hide hd
      clear hd hle hkb
      go_wp2
      go_ret2
      exact ⟨by first | rfl | (rw [HD.out]; rfl), hnx⟩
    · have hE := bgo_0 a b c d (by omega)
      have hq := equal4 a b c d 32 1 136 11 (wr.alloc (.cells #[.int .u8 32, .int .u8 1, .int .u8 136, .int .u8 11] 52))
      rw [hE] at hq
      have hbA := hnx.alloc hnx.size (.cells #[.int .u8 32, .int .u8 1, .int .u8 136, .int .u8 11] 52)
      have hkA := (Below.heap_alloc wr (.cells #[.int .u8 32, .int .u8 1, .int .u8 136, .int .u8 11] 52) _ (Array.getElem?_eq_some_iff.1 hbk).1).trans hbk
      have K := block_cell hkA
      have hix := idx_0 wr
      clear hE
      by_cases hd : bgo a b c d = 0
      · rw [decide_eq_true hd] at hq
        have HD := hide hd
        clear hd
        go_wp2
        go_ret2
        exact ⟨by first | rfl | (rw [HD.out]; rfl), hbA⟩
      · rw [decide_eq_false hd] at hq
        go_wp2
        go_roundw
        case rel => exact ⟨1, by omega, by go_num, by omega, hkA, hbA⟩
        case measure => simp [intOf]
    · have hE := bgo_1 a b c d (by omega)
      have hq := equal4 a b c d 48 1 136 11 (wr.alloc (.cells #[.int .u8 48, .int .u8 1, .int .u8 136, .int .u8 11] 52))
      rw [hE] at hq
      have hbA := hnx.alloc hnx.size (.cells #[.int .u8 48, .int .u8 1, .int .u8 136, .int .u8 11] 52)
      have hkA := (Below.heap_alloc wr (.cells #[.int .u8 48, .int .u8 1, .int .u8 136, .int .u8 11] 52) _ (Array.getElem?_eq_some_iff.1 hbk).1).trans hbk
      have K := block_cell hkA
      have hix := idx_1 wr
      clear hE
      by_cases hd : bgo a b c d = 1
      · rw [decide_eq_true hd] at hq
        have HD := hide hd
        clear hd
        go_wp2
        go_ret2
        exact ⟨by first | rfl | (rw [HD.out]; rfl), hbA⟩
      · rw [decide_eq_false hd] at hq
        go_wp2
        go_roundw
        case rel => exact ⟨2, by omega, by go_num, by omega, hkA, hbA⟩
        case measure => simp [intOf]
    · have hE := bgo_2 a b c d (by omega)
      have hq := equal4 a b c d 32 129 136 11 (wr.alloc (.cells #[.int .u8 32, .int .u8 129, .int .u8 136, .int .u8 11] 52))
      rw [hE] at hq
      have hbA := hnx.alloc hnx.size (.cells #[.int .u8 32, .int .u8 129, .int .u8 136, .int .u8 11] 52)
      have hkA := (Below.heap_alloc wr (.cells #[.int .u8 32, .int .u8 129, .int .u8 136, .int .u8 11] 52) _ (Array.getElem?_eq_some_iff.1 hbk).1).trans hbk
      have K := block_cell hkA
      have hix := idx_2 wr
      clear hE
      by_cases hd : bgo a b c d = 2
      · rw [decide_eq_true hd] at hq
        have HD := hide hd
        clear hd
        go_wp2
        go_ret2
        exact ⟨by first | rfl | (rw [HD.out]; rfl), hbA⟩
      · rw [decide_eq_false hd] at hq
        go_wp2
        go_roundw
        case rel => exact ⟨3, by omega, by go_num, by omega, hkA, hbA⟩
        case measure => simp [intOf]
    · have hE := bgo_3 a b c d (by omega)
      have hq := equal4 a b c d 48 129 136 11 (wr.alloc (.cells #[.int .u8 48, .int .u8 129, .int .u8 136, .int .u8 11] 52))
      rw [hE] at hq
      have hbA := hnx.alloc hnx.size (.cells #[.int .u8 48, .int .u8 129, .int .u8 136, .int .u8 11] 52)
      have hkA := (Below.heap_alloc wr (.cells #[.int .u8 48, .int .u8 129, .int .u8 136, .int .u8 11] 52) _ (Array.getElem?_eq_some_iff.1 hbk).1).trans hbk
      have K := block_cell hkA
      have hix := idx_3 wr
      clear hE
      by_cases hd : bgo a b c d = 3
      · rw [decide_eq_true hd] at hq
        have HD := hide hd
        clear hd
        go_wp2
        go_ret2
        exact ⟨by first | rfl | (rw [HD.out]; rfl), hbA⟩
      · rw [decide_eq_false hd] at hq
        go_wp2
        go_roundw
        case rel => exact ⟨4, by omega, by go_num, by omega, hkA, hbA⟩
        case measure => simp [intOf]
end Go.Proofs.YtcdeiakeiehaaaaDoor
