/- Package pool: the numbers of a set, one after the other. -/
import Derived.Test.YtfompbpllndmfaaDoorPD
import Derived.Test.YtfompbpllndmfaaDoorPE
namespace Go.Proofs.YtfompbpllndmfaaDoor
open Go.RowKit Go.Shelf
set_option maxRecDepth 100000
attribute [local go_sem] Oper.semAt_some
set_option linter.unusedVariables false
set_option linter.unusedSimpArgs false

def wel (ws : Nat → Nat) (i : Nat) : List Nat := (Pm.bl (ws i)).map (fun j => 64 * i + j)
def elsTo (ws : Nat → Nat) (i : Nat) : List Nat := (List.range i).flatMap (wel ws)
def els (ws : Nat → Nat) : List Nat := elsTo ws 1024
theorem elsTo_succ (ws : Nat → Nat) (i : Nat) : elsTo ws (i + 1) = elsTo ws i ++ wel ws i := by
  unfold elsTo
  rw [List.range_succ, List.flatMap_append]
  simp
theorem els_at (ws : Nat → Nat) (i : Nat) (hi : i < 1024) : ∃ rest, elsTo ws i ++ wel ws i ++ rest = els ws := by
  obtain ⟨m, hm⟩ : ∃ m, 1024 = i + 1 + m := ⟨1023 - i, by omega⟩
  refine ⟨((List.range m).map (i + 1 + ·)).flatMap (wel ws), ?_⟩
  unfold els elsTo
  rw [hm, List.range_add, List.flatMap_append, List.range_succ, List.flatMap_append]
  simp
def encN (n : Nat) : Array Value := #[.int .u16 (n : Int)]
def XN (ws : Nat → Nat) (pre : List Nat) (x : Nat) (_V : World) : Prop := ∃ rest, pre ++ x :: rest = els ws
/-- What lies below stays, and so does one block more. -/
def KN (n₀ B : Nat) (A C : World) : Prop := Below n₀ A C ∧ ∀ o, A.heap[B]? = some o → C.heap[B]? = some o
theorem KN.refl (n₀ B : Nat) (A : World) : KN n₀ B A A := ⟨Below.refl _ _, fun o h => h⟩
theorem KN.trans {n₀ B : Nat} {A C D : World} (h : KN n₀ B A C) (k : KN n₀ B C D) : KN n₀ B A D := ⟨h.1.trans k.1, fun o ho => k.2 o (h.2 o ho)⟩
theorem KN.of {n₀ B : Nat} {A C : World} (l : Later A C) (h : n₀ ≤ A.heap.size) : KN n₀ B A C := ⟨Below.mono l h, fun o ho => later_keep l ho⟩

set_option maxRecDepth 100000 in
set_option maxHeartbeats 2000000 in
theorem alln_in (n : Nat) (hn : 2 ≤ n) (l B b n₀ base : Nat) (low high : Int) (ws : Nat → Nat) (J Jx : List Nat → World → Prop)
    (hJ : ∀ s A B, J s A → Later A B → J s B)
    (hY : ∀ pre x V, J pre V → XN ws pre x V → YieldAt Fence.wide (n - 1) Tryd.prog l (encN x) V fun e V' => (e = .returned (.bool true) ∧ J (pre ++ [x]) V' ∧ KN n₀ B V V') ∨ (e = .returned (.bool false) ∧ Jx (pre ++ [x]) V'))
    (W : World) (hB : W.heap[B]? = some (.cells #[.pointer (some ⟨b, 2, none⟩)] 62 (0, 0))) (hn0 : n₀ ≤ W.heap.size) (hT : PB base W b low high ws) (hb : b < n₀) (hz : Dz W) (hz0 : 0 < n₀) (h0 : J [] W) :
    CallsIn Fence.wide n Tryd.prog 33 #[.func (.yield l) #[] #[], .pointer (some ⟨B, 0, none⟩)] W fun e W' => (∃ v, e = .returned v) ∧ ((∃ xs, xs = els ws ∧ J xs W') ∨ (∃ pre, True ∧ Jx pre W')) := by
  have HT := hide hT
  have HZ := hide hz
  have HBX := hide hB
  clear hz hB hT
  refine callsIn_of_wp Tryd.func33 rfl trivial ?_ rfl
  simp only [Tryd.ntmps33, List.size_toArray, List.length_cons, List.length_nil, Nat.reduceAdd, Nat.reduceSub, Array.replicate_succ, Array.replicate_zero, List.push_toArray, List.append_toArray, List.nil_append, List.cons_append]
  gi_wp2
  gi_loopw [5] (fun i wr => ∃ p : Nat, p ≤ 1024 ∧ i = .int .i64 (p : Int) ∧ J (elsTo ws p) wr ∧ KN n₀ B W wr) (fun i _ => 1024 - (intOf i).toNat)
  case atStart => exact ⟨0, by omega, rfl, h0, KN.refl _ _ _⟩
  case round =>
    obtain ⟨p, hp, rfl, hJp, hkp⟩ := hrel
    by_cases hlt : p < 1024
    · have hlt' : (p : Int) < 1024 := by omega
      have hbx := block_cell (hkp.2 _ HBX.out)
      have hTp : PB base wr b low high ws := ⟨HT.out.1, HT.out.2.1, (hkp.1.block b hb).trans HT.out.2.2⟩
      have hwd := hTp.word p hlt
      have hwl := hTp.2.1 p
      obtain ⟨rest, hrest⟩ := els_at ws p hlt
      have HRS := hide hrest
      clear hrest
      have hwe : wel ws p = (Pm.bl (ws p)).map (fun j => 64 * p + j) := rfl
      have HWE := hide hwe
      clear hwe
      generalize ws p = x0 at *
      gi_wp2
      rename World => w1
      gi_loopw [4] (fun lf wx => ∃ (x : Nat) (d : List Nat), lf = .int .u64 (x : Int) ∧ x < 18446744073709551616 ∧ d ++ Pm.bl x = Pm.bl x0 ∧ J (elsTo ws p ++ d.map (fun j => 64 * p + j)) wx ∧ KN n₀ B W wx) (fun lf _ => (Pm.bl (intOf lf).toNat).length)
      case atStart => exact ⟨x0, [], rfl, hwl, rfl, by rw [List.map_nil, List.append_nil]; exact hJp, hkp⟩
      case round =>
        obtain ⟨x, d, rfl, hxl, hdx, hJd, hkd⟩ := hrel
        by_cases hx0 : x = 0
        · subst hx0
          rw [Pm.bl_zero, List.append_nil] at hdx
          subst hdx
          gi_wp2
          go_roundw
          case rel => exact ⟨p + 1, by omega, by go_num, by rw [elsTo_succ, HWE.out]; exact hJd, hkd⟩
          case measure => simp [intOf]; omega
        · have hst := Pm.bl_step x hx0 hxl
          obtain ⟨hk, _⟩ := Pm.low_clear x hx0 hxl
          have HTZ := hide (tz_any x wr hxl hx0 (HZ.out.below hkd.1 hz0))
          have hnx : ((x : Int) != 0) = true := by simp; omega
          have hat : XN ws (elsTo ws p ++ d.map (fun j => 64 * p + j)) (64 * p + Lib.ctz 64 x) wr := by
            refine ⟨(Pm.bl (x &&& (x - 1))).map (fun j => 64 * p + j) ++ rest, ?_⟩
            rw [← HRS.out, HWE.out, ← hdx, hst]
            simp
          have hnext : d ++ [Lib.ctz 64 x] ++ Pm.bl (x &&& (x - 1)) = Pm.bl x0 := by rw [← hdx, hst]; simp
          have hlen : (Pm.bl (x &&& (x - 1))).length < (Pm.bl x).length := by rw [hst]; simp
          have hband : bits BinOp.and IntKind.u64 (x : Int) (IntKind.u64.wrap ((x : Int) - 1)) = ((x &&& (x - 1) : Nat) : Int) := by
            rw [show (x : Int) - 1 = ((x - 1 : Nat) : Int) from by omega, wrapN _ (by omega)]
            exact bits_and_u64_nat x (x - 1) hxl (by omega)
          have hbl : x &&& (x - 1) < 18446744073709551616 := Nat.lt_of_le_of_lt Nat.and_le_left hxl
          obtain ⟨fn, tmps, assign, body, hy, hR⟩ := hY _ _ _ hJd hat
          dsimp only [encN] at hy
          rw [show ((64 * p + Lib.ctz 64 x : Nat) : Int) = (p : Int) * 64 + (Lib.ctz 64 x : Int) from by omega] at hy
          have HNX := hide hnext
          have HLN := hide hlen
          have HBA := hide hband
          have HBL := hide hbl
          have HR := hide hR
          have hk' : (Lib.ctz 64 x : Int) < 64 := by omega
          clear hnext hlen hband hbl hR hat hst hk hdx hx0
          generalize Lib.ctz 64 x = k at *
          generalize x &&& (x - 1) = x2 at *
          gi_wp2
          refine ⟨trivial, ?_⟩
          refine ⟨fun _ => by omega, (callsIn_wide.2 HTZ.out).mono ?_⟩
          rintro e w3 ⟨rfl, rfl⟩
          gi_wp2
          refine ⟨fun _ => by omega, HR.out.mono ?_⟩
          rintro e W3 (⟨rfl, hJ3, hk3⟩ | ⟨rfl, hJx3⟩)
          · gi_wp2
            rw [HBA.out]
            go_roundw
            case rel => exact ⟨x2, d ++ [k], rfl, HBL.out, HNX.out, by rw [List.map_append, ← List.append_assoc]; exact hJ3, hkd.trans hk3⟩
            case measure => simpa [intOf] using HLN.out
          · gi_wp2
            refine bodyPost_ret (results_none rfl _ _ _) rfl ?_
            exact ⟨⟨_, rfl⟩, .inr ⟨_, trivial, hJx3⟩⟩
    · obtain rfl : p = 1024 := by omega
      gi_wp2
      go_end0
      exact ⟨⟨_, rfl⟩, .inl ⟨_, rfl, hJp⟩⟩
end Go.Proofs.YtfompbpllndmfaaDoor
