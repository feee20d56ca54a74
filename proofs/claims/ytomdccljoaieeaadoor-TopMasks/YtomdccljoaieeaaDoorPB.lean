/- Package pool: words of a set; bit, has, add, remove. -/
import Derived.Test.YtomdccljoaieeaaDoorRx
import Derived.Test.YtomdccljoaieeaaDoorRh
import Derived.Test.YtomdccljoaieeaaDoorRv
import Derived.Test.YtomdccljoaieeaaDoorPA
import Derived.Laws.Bits64b
import Derived.Laws.BitsAllLaws
import Derived.Lib.TrailingZeros
import Derived.Deep.DeepCutAuto
import Derived.Deep.CutBlock
namespace Go.Proofs.YtomdccljoaieeaaDoor
open Go.RowKit Go.Shelf
set_option maxRecDepth 100000
set_option linter.unusedVariables false
set_option linter.unusedSimpArgs false

theorem pow_lt64 (n : Nat) : 2 ^ (n % 64) < 18446744073709551616 := by
  have : 2 ^ (n % 64) < 2 ^ 64 := Nat.pow_lt_pow_right (by omega) (Nat.mod_lt _ (by omega))
  simpa using this
theorem wrapN (x : Nat) (h : x < 18446744073709551616) : IntKind.u64.wrap (x : Int) = (x : Int) := by rw [IntKind.wrap_u64]; omega

set_option maxHeartbeats 1000000 in
theorem bit_any (n : Nat) (w : World) (hn : n < 65536) : Calls Tryd.prog 40 #[.int .u16 (n : Int)] w fun e w' => e = .returned (.int .u64 ((2 ^ (n % 64) : Nat) : Int)) ∧ w' = w := by
  have hp := wrapN (2 ^ (n % 64)) (pow_lt64 n)
  have HP := hide hp
  clear hp
  go_enter Tryd.func40, Tryd.ntmps40
  go_wp2_with fail
  go_ret
  refine ⟨?_, rfl⟩
  rw [← HP.out]
  simp

theorem s1 (x : Nat) (hx : x < 18446744073709551616) : IntKind.u64.wrap (bits BinOp.and IntKind.u64 ((x : Int) / 2) 6148914691236517205 + bits BinOp.and IntKind.u64 (x : Int) 6148914691236517205) = ((Pm.f1 8 x : Nat) : Int) ∧ Pm.f1 8 x ≤ 12297829382473034410 := by
  have e1 := bits_and_u64_nat (x / 2) 6148914691236517205 (by omega) (by omega)
  have e2 := bits_and_u64_nat x 6148914691236517205 hx (by omega)
  have h1 : x / 2 &&& 6148914691236517205 ≤ 6148914691236517205 := Nat.and_le_right
  have h2 : x &&& 6148914691236517205 ≤ 6148914691236517205 := Nat.and_le_right
  have e : Pm.f1 8 x = (x / 2 &&& 6148914691236517205) + (x &&& 6148914691236517205) := rfl
  rw [e, show (x : Int) / 2 = ((x / 2 : Nat) : Int) from by omega, show (6148914691236517205 : Int) = ((6148914691236517205 : Nat) : Int) from rfl, e1, e2, ← Int.natCast_add]
  exact ⟨wrapN _ (by omega), by omega⟩
theorem s2 (x : Nat) (hx : x < 18446744073709551616) : IntKind.u64.wrap (bits BinOp.and IntKind.u64 ((x : Int) / 4) 3689348814741910323 + bits BinOp.and IntKind.u64 (x : Int) 3689348814741910323) = ((Pm.f2 8 x : Nat) : Int) ∧ Pm.f2 8 x ≤ 7378697629483820646 := by
  have e1 := bits_and_u64_nat (x / 4) 3689348814741910323 (by omega) (by omega)
  have e2 := bits_and_u64_nat x 3689348814741910323 hx (by omega)
  have h1 : x / 4 &&& 3689348814741910323 ≤ 3689348814741910323 := Nat.and_le_right
  have h2 : x &&& 3689348814741910323 ≤ 3689348814741910323 := Nat.and_le_right
  have e : Pm.f2 8 x = (x / 4 &&& 3689348814741910323) + (x &&& 3689348814741910323) := rfl
  rw [e, show (x : Int) / 4 = ((x / 4 : Nat) : Int) from by omega, show (3689348814741910323 : Int) = ((3689348814741910323 : Nat) : Int) from rfl, e1, e2, ← Int.natCast_add]
  exact ⟨wrapN _ (by omega), by omega⟩
theorem s3 (x : Nat) (hx : x ≤ 7378697629483820646) : bits BinOp.and IntKind.u64 (IntKind.u64.wrap ((x : Int) / 16 + (x : Int))) 1085102592571150095 = ((Pm.f3 8 x : Nat) : Int) := by
  have e : Pm.f3 8 x = (x / 16 + x) &&& 1085102592571150095 := rfl
  rw [e, show (x : Int) / 16 + (x : Int) = ((x / 16 + x : Nat) : Int) from by omega, wrapN _ (by omega)]
  exact bits_and_u64_nat (x / 16 + x) 1085102592571150095 (by omega) (by omega)
theorem s4 (x d : Nat) (h : x + x / d < 18446744073709551616) : IntKind.u64.wrap ((x : Int) + (x : Int) / (d : Int)) = ((x + x / d : Nat) : Int) := by
  rw [show (x : Int) + (x : Int) / (d : Int) = ((x + x / d : Nat) : Int) from by simp]
  exact wrapN _ h

theorem and127 (a : Nat) (ha : a < 9223372036854775808) : bits BinOp.and IntKind.i64 (a : Int) 127 = ((a % 128 : Nat) : Int) := by
  have h1 : (BitVec.ofInt 64 (a : Int)).toNat = a := by
    rw [BitVec.ofInt_natCast, BitVec.toNat_ofNat]; exact Nat.mod_eq_of_lt (by omega)
  have h2 : (BitVec.ofInt 64 (127 : Int)).toNat = 127 := by decide
  have h3 : a &&& 127 = a % 128 := Nat.and_two_pow_sub_one_eq_mod a 7
  show IntKind.i64.wrap ((BitVec.ofInt 64 (a : Int) &&& BitVec.ofInt 64 (127 : Int)).toNat : Int) = _
  rw [BitVec.toNat_and, h1, h2, h3]
  have : a % 128 < 128 := Nat.mod_lt _ (by omega)
  generalize a % 128 = r at *
  simp [IntKind.wrap, IntKind.signed, IntKind.bits]
  omega

/-- The cells of a pool: from, to, and the words of what is free. -/
def pcl (low high : Int) (ws : Nat → Nat) : List Value := .int .u16 low :: .int .u16 high :: (List.range 1024).map (fun i => .int .u64 (ws i : Int))
def PB (base : Nat) (W : World) (b : Nat) (low high : Int) (ws : Nat → Nat) : Prop := base ≤ b ∧ (∀ i, ws i < 18446744073709551616) ∧ W.heap[b]? = some (.cells (pcl low high ws).toArray 62 (0, 0))
theorem PB.later {base : Nat} {A B : World} {b : Nat} {low high : Int} {ws : Nat → Nat} (h : PB base A b low high ws) (l : Later A B) : PB base B b low high ws := ⟨h.1, h.2.1, later_keep l h.2.2⟩
theorem PB.lt {base : Nat} {W : World} {b : Nat} {low high : Int} {ws : Nat → Nat} (h : PB base W b low high ws) : b < W.heap.size := (Array.getElem?_eq_some_iff.1 h.2.2).1
theorem PB.word {base : Nat} {W : World} {b : Nat} {low high : Int} {ws : Nat → Nat} (h : PB base W b low high ws) (i : Nat) (hi : i < 1024) : W.cell? ⟨b, 2 + i, none⟩ = some (.int .u64 (ws i : Int)) := by
  rw [block_cell h.2.2, List.getElem?_toArray]
  unfold pcl
  rw [show 2 + i = i + 1 + 1 from by omega, List.getElem?_cons_succ, List.getElem?_cons_succ, List.getElem?_map, List.getElem?_range hi]
  rfl
theorem PB.low {base : Nat} {W : World} {b : Nat} {low high : Int} {ws : Nat → Nat} (h : PB base W b low high ws) : W.cell? ⟨b, 0, none⟩ = some (.int .u16 low) := by
  rw [block_cell h.2.2]; rfl
theorem PB.high {base : Nat} {W : World} {b : Nat} {low high : Int} {ws : Nat → Nat} (h : PB base W b low high ws) : W.cell? ⟨b, 1, none⟩ = some (.int .u16 high) := by
  rw [block_cell h.2.2]; rfl
def upd (ws : Nat → Nat) (i x : Nat) : Nat → Nat := fun j => if j = i then x else ws j
theorem pcl_set (low high : Int) (ws : Nat → Nat) (i x : Nat) (hi : i < 1024) : (pcl low high ws).toArray.setIfInBounds (2 + i) (.int .u64 (x : Int)) = (pcl low high (upd ws i x)).toArray := by
  rw [List.setIfInBounds_toArray]
  congr 1
  unfold pcl
  rw [show 2 + i = i + 1 + 1 from by omega, List.set_cons_succ, List.set_cons_succ]
  congr 2
  apply List.ext_getElem?
  intro j
  rw [List.getElem?_set, List.getElem?_map, List.getElem?_map]
  unfold upd
  by_cases hj : i = j
  · subst hj
    rw [if_pos rfl, List.getElem?_range hi]
    simp [hi]
  · rw [if_neg hj]
    by_cases hl : j < 1024
    · rw [List.getElem?_range hl]
      simp [Ne.symm hj]
    · rw [List.getElem?_eq_none (by simp; omega)]
      rfl
/-- Is a number there? -/
def fr (ws : Nat → Nat) (n : Nat) : Bool := (ws (n / 64)).testBit (n % 64)
theorem and_pow (x i : Nat) : (x &&& 2 ^ i ≠ 0) ↔ x.testBit i = true := by
  constructor
  · intro h
    cases hb : x.testBit i with
    | true => rfl
    | false =>
      refine absurd (Nat.eq_of_testBit_eq fun j => ?_) h
      rw [Nat.testBit_and, Nat.testBit_two_pow, Nat.zero_testBit]
      by_cases hj : i = j
      · subst hj
        rw [hb]
        rfl
      · simp [hj]
  · intro h e
    have := congrArg (fun y => Nat.testBit y i) e
    simp [Nat.testBit_and, Nat.testBit_two_pow, h] at this
theorem wrap16 (n : Nat) (hn : n < 65536) : IntKind.u16.wrap ((n : Int) / 64) = ((n / 64 : Nat) : Int) := by
  have : IntKind.u16.wrap ((n : Int) / 64) = ((n : Int) / 64) % 65536 := by simp [IntKind.wrap, IntKind.signed, IntKind.bits]
  rw [this]
  omega

set_option maxHeartbeats 2000000 in
theorem has_any (base b : Nat) (low high : Int) (ws : Nat → Nat) (n : Nat) (w : World) (hT : PB base w b low high ws) (hn : n < 65536) :
    Calls Tryd.prog 23 #[.pointer (some ⟨b, 2, none⟩), .int .u16 (n : Int)] w fun e w' => e = .returned (.bool (fr ws n)) ∧ Later w w' := by
  have HW := hide (wrap16 n hn)
  have hq2 : n / 64 < 1024 := by omega
  have hq3 : ((n / 64 : Nat) : Int) < 1024 := by omega
  have hlt := pow_lt64 n
  have hwl := hT.2.1 (n / 64)
  have HAN := hide (bits_and_u64_nat (ws (n / 64)) (2 ^ (n % 64)) hwl hlt)
  have HFR : Hid (fr ws n = decide (¬ ((ws (n / 64) &&& 2 ^ (n % 64) : Nat) : Int) = 0)) := by
    show _ = _
    rw [Bool.eq_iff_iff, decide_eq_true_iff]
    unfold fr
    rw [← and_pow]
    omega
  have HB := hide (fun W => bit_any n W hn)
  have HQ := hide (fun v1 (h : Later w v1) => (hT.later h).word (n / 64) hq2)
  clear hlt hwl hq2
  generalize n / 64 = i at *
  generalize 2 ^ (n % 64) = c at *
  have hi0 : (0 : Int) ≤ (i : Int) := by omega
  have hi1 : (i : Int) < 1024 := by omega
  clear hq3
  go_enter Tryd.func23, Tryd.ntmps23
  go_upto_region 1 with fail
  refine anyR_begin (R := Later) Later.pre Later.drew 12 rfl (by kernel_rfl) (fun V1 hV1 => ?_)
  have q1 : ∀ v1, Later V1 v1 → v1.cell? ⟨b, 2 + i, none⟩ = some (.int .u64 (ws i : Int)) := fun v1 h => HQ.out v1 (hV1.trans h)
  refine anyR_val Later.pre 0 rfl (by kernel_rfl) (by kernel_rfl) (by kernel_rfl) (fun _ _ _ _ h => h) rfl ?_; apply Exists.intro; refine ⟨fun w1 hw1 => ?_, ?_⟩; (· (go_simp; rfl)); simp only [Act.put, List.setIfInBounds_toArray, List.set_cons_zero, List.set_cons_succ]
  refine anyR_val Later.pre 1 rfl (by kernel_rfl) (by kernel_rfl) (by kernel_rfl) (fun _ _ _ _ h => h) rfl ?_; apply Exists.intro; refine ⟨fun w1 hw1 => ?_, ?_⟩; (· (go_simp; rfl)); simp only [Act.put, List.setIfInBounds_toArray, List.set_cons_zero, List.set_cons_succ]
  refine anyR_val Later.pre 2 rfl (by kernel_rfl) (by kernel_rfl) (by kernel_rfl) (fun _ _ _ _ h => h) rfl ?_; apply Exists.intro; refine ⟨fun w1 hw1 => ?_, ?_⟩; (· (go_simp; rfl)); simp only [Act.put, List.setIfInBounds_toArray, List.set_cons_zero, List.set_cons_succ]
  rw [HW.out]
  refine anyR_val Later.pre 3 rfl (by kernel_rfl) (by kernel_rfl) (by kernel_rfl) (fun _ _ _ _ h => h) rfl ?_; apply Exists.intro; refine ⟨fun w1 hw1 => ?_, ?_⟩; (· (go_simp; rfl)); simp only [Act.put, List.setIfInBounds_toArray, List.set_cons_zero, List.set_cons_succ]
  refine anyR_val Later.pre 4 rfl (by kernel_rfl) (by kernel_rfl) (by kernel_rfl) (fun _ _ _ _ h => h) rfl ?_; apply Exists.intro; refine ⟨fun w1 hw1 => ?_, ?_⟩; (· (go_simp; rfl)); simp only [Act.put, List.setIfInBounds_toArray, List.set_cons_zero, List.set_cons_succ]
  refine anyR_val Later.pre 5 rfl (by kernel_rfl) (by kernel_rfl) (by kernel_rfl) (fun _ _ _ _ h => h) rfl ?_; apply Exists.intro; refine ⟨fun w1 hw1 => ?_, ?_⟩; (· (go_simp; rfl)); simp only [Act.put, List.setIfInBounds_toArray, List.set_cons_zero, List.set_cons_succ]
  refine anyR_val Later.pre 6 rfl (by kernel_rfl) (by kernel_rfl) (by kernel_rfl) (fun _ _ _ _ h => h) rfl ?_; apply Exists.intro; refine ⟨fun w1 hw1 => ?_, ?_⟩; (· (go_simp; rfl)); simp only [Act.put, List.setIfInBounds_toArray, List.set_cons_zero, List.set_cons_succ]
  refine anyR_val Later.pre 7 rfl (by kernel_rfl) (by kernel_rfl) (by kernel_rfl) (fun _ _ _ _ h => h) rfl ?_; apply Exists.intro; refine ⟨fun w1 hw1 => ?_, ?_⟩; (· (go_simp; rfl)); simp only [Act.put, List.setIfInBounds_toArray, List.set_cons_zero, List.set_cons_succ]
  clear q1
  refine anyR_take Later.pre 8 (.int .u64 (c : Int)) rfl (by kernel_rfl) (by kernel_rfl) (by kernel_rfl) (fun _ _ _ h => h) rfl (fun w1 hw1 => goes_call 40 #[.int .u16 (n : Int)] (by go_simp) ((HB.out w1).mono fun e w2 h => ⟨h.1, by rw [h.2]; exact Later.refl _⟩)) ?_
  simp only [Act.put, List.setIfInBounds_toArray, List.set_cons_zero, List.set_cons_succ]
  refine anyR_val Later.pre 9 rfl (by kernel_rfl) (by kernel_rfl) (by kernel_rfl) (fun _ _ _ _ h => h) rfl ?_; apply Exists.intro; refine ⟨fun w1 hw1 => ?_, ?_⟩; (· (go_simp; rfl)); simp only [Act.put, List.setIfInBounds_toArray, List.set_cons_zero, List.set_cons_succ]
  rw [HAN.out]
  generalize ws i &&& c = z at *
  refine anyR_val Later.pre 10 rfl (by kernel_rfl) (by kernel_rfl) (by kernel_rfl) (fun _ _ _ _ h => h) rfl ?_; apply Exists.intro; refine ⟨fun w1 hw1 => ?_, ?_⟩; (· (go_simp; rfl)); simp only [Act.put, List.setIfInBounds_toArray, List.set_cons_zero, List.set_cons_succ]
  refine anyR_val Later.pre 11 rfl (by kernel_rfl) (by kernel_rfl) (by kernel_rfl) (fun _ _ _ _ h => h) rfl ?_; apply Exists.intro; refine ⟨fun w1 hw1 => ?_, ?_⟩; (· (go_simp; rfl)); simp only [Act.put, List.setIfInBounds_toArray, List.set_cons_zero, List.set_cons_succ]
  refine anyR_done (by kernel_rfl) (fun V2 hV2 => ?_)
  have L2 := hV1.trans hV2
  go_wp2_with fail
  go_ret
  refine ⟨?_, L2⟩
  rw [HFR.out]
  by_cases hz : z = 0 <;> simp [hz]

theorem add_lt {x c : Nat} (hx : x < 18446744073709551616) (hc : c < 18446744073709551616) : x ||| c < 18446744073709551616 := by
  have := Nat.or_lt_two_pow (n := 64) (x := x) (y := c) (by omega) (by omega)
  simpa using this
theorem remove_lt {x c : Nat} (hx : x < 18446744073709551616) (hc : c < 18446744073709551616) : x &&& (18446744073709551615 - c) < 18446744073709551616 := Nat.lt_of_le_of_lt Nat.and_le_left hx

set_option maxHeartbeats 2000000 in
theorem add_any (base b : Nat) (low high : Int) (ws : Nat → Nat) (n : Nat) (w : World) (hT : PB base w b low high ws) (hn : n < 65536) :
    Calls Tryd.prog 15 #[.pointer (some ⟨b, 2, none⟩), .int .u16 (n : Int)] w fun e w' => (∃ v, e = .returned v) ∧ PB base w' b low high (upd ws (n / 64) (ws (n / 64) ||| 2 ^ (n % 64))) ∧ But (fun g => g = b) w w' := by
  have HW := hide (wrap16 n hn)
  have hq2 : n / 64 < 1024 := by omega
  have hq3 : ((n / 64 : Nat) : Int) < 1024 := by omega
  have hlt := pow_lt64 n
  have hwl := hT.2.1 (n / 64)
  have HAN := hide (bits_or_u64_nat (ws (n / 64)) (2 ^ (n % 64)) hwl hlt)
  have HLT : Hid (ws (n / 64) ||| 2 ^ (n % 64) < 18446744073709551616) := add_lt hwl hlt
  have HB := hide (fun W => bit_any n W hn)
  have HQ := hide (fun v1 (h : PB base v1 b low high ws) => h.word (n / 64) hq2)
  have HST := hide (fun x : Nat => pcl_set low high ws (n / 64) x hq2)
  clear hlt hwl hq2
  generalize n / 64 = i at *
  generalize 2 ^ (n % 64) = c at *
  have hi0 : (0 : Int) ≤ (i : Int) := by omega
  have hi1 : (i : Int) < 1024 := by omega
  clear hq3
  go_enter Tryd.func15, Tryd.ntmps15
  refine anyU_begin (R1 := Later) (R2 := But (fun g => g = b)) (D := [13]) 14 rfl (by kernel_rfl) ?_
  have ld : Later w w.drew := Later.drew w
  have hTd := hT.later ld
  generalize w.drew = Wd at *
  have q1 : ∀ v1, Later Wd v1 → v1.cell? ⟨b, 2 + i, none⟩ = some (.int .u64 (ws i : Int)) := fun v1 h => HQ.out v1 (hTd.later h)
  refine anyU_pure Later.refl (But.refl _) 0 rfl (by kernel_rfl) (by kernel_rfl) (by kernel_rfl) (fun _ _ _ _ h => h) (by rfl) ?_; apply Exists.intro; refine ⟨fun v1 => ?_, ?_⟩; (· (go_simp; rfl)); simp only [Act.put, List.setIfInBounds_toArray, List.set_cons_zero, List.set_cons_succ]
  refine anyU_pure Later.refl (But.refl _) 1 rfl (by kernel_rfl) (by kernel_rfl) (by kernel_rfl) (fun _ _ _ _ h => h) (by rfl) ?_; apply Exists.intro; refine ⟨fun v1 => ?_, ?_⟩; (· (go_simp; rfl)); simp only [Act.put, List.setIfInBounds_toArray, List.set_cons_zero, List.set_cons_succ]
  refine anyU_pure Later.refl (But.refl _) 2 rfl (by kernel_rfl) (by kernel_rfl) (by kernel_rfl) (fun _ _ _ _ h => h) (by rfl) ?_; apply Exists.intro; refine ⟨fun v1 => ?_, ?_⟩; (· (go_simp; rfl)); simp only [Act.put, List.setIfInBounds_toArray, List.set_cons_zero, List.set_cons_succ]
  rw [HW.out]
  refine anyU_pure Later.refl (But.refl _) 3 rfl (by kernel_rfl) (by kernel_rfl) (by kernel_rfl) (fun _ _ _ _ h => h) (by rfl) ?_; apply Exists.intro; refine ⟨fun v1 => ?_, ?_⟩; (· (go_simp; rfl)); simp only [Act.put, List.setIfInBounds_toArray, List.set_cons_zero, List.set_cons_succ]
  refine anyU_pure Later.refl (But.refl _) 4 rfl (by kernel_rfl) (by kernel_rfl) (by kernel_rfl) (fun _ _ _ _ h => h) (by rfl) ?_; apply Exists.intro; refine ⟨fun v1 => ?_, ?_⟩; (· (go_simp; rfl)); simp only [Act.put, List.setIfInBounds_toArray, List.set_cons_zero, List.set_cons_succ]
  refine anyU_pure Later.refl (But.refl _) 5 rfl (by kernel_rfl) (by kernel_rfl) (by kernel_rfl) (fun _ _ _ _ h => h) (by rfl) ?_; apply Exists.intro; refine ⟨fun v1 => ?_, ?_⟩; (· (go_simp; rfl)); simp only [Act.put, List.setIfInBounds_toArray, List.set_cons_zero, List.set_cons_succ]
  refine anyU_val Later.pre 6 [9, 13] rfl (by rfl) (by rfl) (by kernel_rfl) (by kernel_rfl) (by kernel_rfl) (by kernel_rfl) (by kernel_rfl) (fun _ _ _ _ h => h) (by rfl) ?_; apply Exists.intro; refine ⟨fun v1 hv1 => ?_, ?_⟩; (· (go_simp; rfl)); simp only [Act.put, List.setIfInBounds_toArray, List.set_cons_zero, List.set_cons_succ]
  refine anyU_pure Later.refl (But.refl _) 7 rfl (by kernel_rfl) (by kernel_rfl) (by kernel_rfl) (fun _ _ _ _ h => h) (by rfl) ?_; apply Exists.intro; refine ⟨fun v1 => ?_, ?_⟩; (· (go_simp; rfl)); simp only [Act.put, List.setIfInBounds_toArray, List.set_cons_zero, List.set_cons_succ]
  refine anyU_pure Later.refl (But.refl _) 10 rfl (by kernel_rfl) (by kernel_rfl) (by kernel_rfl) (fun _ _ _ _ h => h) (by rfl) ?_; apply Exists.intro; refine ⟨fun v1 => ?_, ?_⟩; (· (go_simp; rfl)); simp only [Act.put, List.setIfInBounds_toArray, List.set_cons_zero, List.set_cons_succ]
  refine anyU_pure Later.refl (But.refl _) 11 rfl (by kernel_rfl) (by kernel_rfl) (by kernel_rfl) (fun _ _ _ _ h => h) (by rfl) ?_; apply Exists.intro; refine ⟨fun v1 => ?_, ?_⟩; (· (go_simp; rfl)); simp only [Act.put, List.setIfInBounds_toArray, List.set_cons_zero, List.set_cons_succ]
  clear q1
  refine anyU_one 8 rfl (by kernel_rfl) (by rfl) ?_
  refine wp_enter 40 #[.int .u16 (n : Int)] (by go_simp) ?_
  refine (HB.out Wd).mono ?_
  rintro e W1 ⟨rfl, rfl⟩
  refine ⟨Rj_out (by rfl) (Later.refl _), ?_⟩
  simp only [Act.put, List.setIfInBounds_toArray, List.set_cons_zero, List.set_cons_succ]
  refine anyU_pure Later.refl (But.refl _) 9 rfl (by kernel_rfl) (by kernel_rfl) (by kernel_rfl) (fun _ _ _ _ h => h) (by rfl) ?_; apply Exists.intro; refine ⟨fun v1 => ?_, ?_⟩; (· (go_simp; rfl)); simp only [Act.put, List.setIfInBounds_toArray, List.set_cons_zero, List.set_cons_succ]
  rw [HAN.out]
  refine anyU_pure Later.refl (But.refl _) 12 rfl (by kernel_rfl) (by kernel_rfl) (by kernel_rfl) (fun _ _ _ _ h => h) (by rfl) ?_; apply Exists.intro; refine ⟨fun v1 => ?_, ?_⟩; (· (go_simp; rfl)); simp only [Act.put, List.setIfInBounds_toArray, List.set_cons_zero, List.set_cons_succ]
  have hfin : PB base (W1.setCell ⟨b, 2 + i, none⟩ (.int .u64 ((ws i ||| c : Nat) : Int))) b low high (upd ws i (ws i ||| c)) := by
    refine ⟨hTd.1, fun j => ?_, ?_⟩
    · unfold upd
      split
      · exact HLT.out
      · exact hTd.2.1 j
    · rw [← HST.out]
      exact heap_set1 hTd.2.2 (2 + i) _
  have hbS : But (fun g => g = b) W1 (W1.setCell ⟨b, 2 + i, none⟩ (.int .u64 ((ws i ||| c : Nat) : Int))) := (But.refl (fun g => g = b) _).setCell (p := ⟨b, 2 + i, none⟩) rfl _
  have F1 := block_frozen hTd.2.2
  have k1 := HQ.out W1 hTd
  have HF := hide hfin
  have HBS := hide hbS
  clear hfin hbS
  generalize hzz : ws i ||| c = z at *
  refine anyU_one 13 rfl (by kernel_rfl) (by rfl) ?_
  unfold Oper.wp
  go_simp
  refine ⟨Rj_in (by rfl) HBS.out, ?_⟩
  refine anyU_done (by kernel_rfl) ?_
  generalize hV : World.setCell _ _ _ = V at *
  go_end0
  exact ⟨⟨_, rfl⟩, HF.out, (But.of ld).trans HBS.out⟩

set_option maxHeartbeats 2000000 in
theorem remove_any (base b : Nat) (low high : Int) (ws : Nat → Nat) (n : Nat) (w : World) (hT : PB base w b low high ws) (hn : n < 65536) :
    Calls Tryd.prog 25 #[.pointer (some ⟨b, 2, none⟩), .int .u16 (n : Int)] w fun e w' => (∃ v, e = .returned v) ∧ PB base w' b low high (upd ws (n / 64) (ws (n / 64) &&& (18446744073709551615 - 2 ^ (n % 64)))) ∧ But (fun g => g = b) w w' := by
  have HW := hide (wrap16 n hn)
  have hq2 : n / 64 < 1024 := by omega
  have hq3 : ((n / 64 : Nat) : Int) < 1024 := by omega
  have hlt := pow_lt64 n
  have hwl := hT.2.1 (n / 64)
  have HAN := hide (u64_andNot_nat (ws (n / 64)) (2 ^ (n % 64)) hwl hlt)
  have HLT : Hid (ws (n / 64) &&& (18446744073709551615 - 2 ^ (n % 64)) < 18446744073709551616) := remove_lt hwl hlt
  have HB := hide (fun W => bit_any n W hn)
  have HQ := hide (fun v1 (h : PB base v1 b low high ws) => h.word (n / 64) hq2)
  have HST := hide (fun x : Nat => pcl_set low high ws (n / 64) x hq2)
  clear hlt hwl hq2
  generalize n / 64 = i at *
  generalize 2 ^ (n % 64) = c at *
  have hi0 : (0 : Int) ≤ (i : Int) := by omega
  have hi1 : (i : Int) < 1024 := by omega
  clear hq3
  go_enter Tryd.func25, Tryd.ntmps25
  refine anyU_begin (R1 := Later) (R2 := But (fun g => g = b)) (D := [13]) 14 rfl (by kernel_rfl) ?_
  have ld : Later w w.drew := Later.drew w
  have hTd := hT.later ld
  generalize w.drew = Wd at *
  have q1 : ∀ v1, Later Wd v1 → v1.cell? ⟨b, 2 + i, none⟩ = some (.int .u64 (ws i : Int)) := fun v1 h => HQ.out v1 (hTd.later h)
  refine anyU_pure Later.refl (But.refl _) 0 rfl (by kernel_rfl) (by kernel_rfl) (by kernel_rfl) (fun _ _ _ _ h => h) (by rfl) ?_; apply Exists.intro; refine ⟨fun v1 => ?_, ?_⟩; (· (go_simp; rfl)); simp only [Act.put, List.setIfInBounds_toArray, List.set_cons_zero, List.set_cons_succ]
  refine anyU_pure Later.refl (But.refl _) 1 rfl (by kernel_rfl) (by kernel_rfl) (by kernel_rfl) (fun _ _ _ _ h => h) (by rfl) ?_; apply Exists.intro; refine ⟨fun v1 => ?_, ?_⟩; (· (go_simp; rfl)); simp only [Act.put, List.setIfInBounds_toArray, List.set_cons_zero, List.set_cons_succ]
  refine anyU_pure Later.refl (But.refl _) 2 rfl (by kernel_rfl) (by kernel_rfl) (by kernel_rfl) (fun _ _ _ _ h => h) (by rfl) ?_; apply Exists.intro; refine ⟨fun v1 => ?_, ?_⟩; (· (go_simp; rfl)); simp only [Act.put, List.setIfInBounds_toArray, List.set_cons_zero, List.set_cons_succ]
  rw [HW.out]
  refine anyU_pure Later.refl (But.refl _) 3 rfl (by kernel_rfl) (by kernel_rfl) (by kernel_rfl) (fun _ _ _ _ h => h) (by rfl) ?_; apply Exists.intro; refine ⟨fun v1 => ?_, ?_⟩; (· (go_simp; rfl)); simp only [Act.put, List.setIfInBounds_toArray, List.set_cons_zero, List.set_cons_succ]
  refine anyU_pure Later.refl (But.refl _) 4 rfl (by kernel_rfl) (by kernel_rfl) (by kernel_rfl) (fun _ _ _ _ h => h) (by rfl) ?_; apply Exists.intro; refine ⟨fun v1 => ?_, ?_⟩; (· (go_simp; rfl)); simp only [Act.put, List.setIfInBounds_toArray, List.set_cons_zero, List.set_cons_succ]
  refine anyU_pure Later.refl (But.refl _) 5 rfl (by kernel_rfl) (by kernel_rfl) (by kernel_rfl) (fun _ _ _ _ h => h) (by rfl) ?_; apply Exists.intro; refine ⟨fun v1 => ?_, ?_⟩; (· (go_simp; rfl)); simp only [Act.put, List.setIfInBounds_toArray, List.set_cons_zero, List.set_cons_succ]
  refine anyU_val Later.pre 6 [9, 13] rfl (by rfl) (by rfl) (by kernel_rfl) (by kernel_rfl) (by kernel_rfl) (by kernel_rfl) (by kernel_rfl) (fun _ _ _ _ h => h) (by rfl) ?_; apply Exists.intro; refine ⟨fun v1 hv1 => ?_, ?_⟩; (· (go_simp; rfl)); simp only [Act.put, List.setIfInBounds_toArray, List.set_cons_zero, List.set_cons_succ]
  refine anyU_pure Later.refl (But.refl _) 7 rfl (by kernel_rfl) (by kernel_rfl) (by kernel_rfl) (fun _ _ _ _ h => h) (by rfl) ?_; apply Exists.intro; refine ⟨fun v1 => ?_, ?_⟩; (· (go_simp; rfl)); simp only [Act.put, List.setIfInBounds_toArray, List.set_cons_zero, List.set_cons_succ]
  refine anyU_pure Later.refl (But.refl _) 10 rfl (by kernel_rfl) (by kernel_rfl) (by kernel_rfl) (fun _ _ _ _ h => h) (by rfl) ?_; apply Exists.intro; refine ⟨fun v1 => ?_, ?_⟩; (· (go_simp; rfl)); simp only [Act.put, List.setIfInBounds_toArray, List.set_cons_zero, List.set_cons_succ]
  refine anyU_pure Later.refl (But.refl _) 11 rfl (by kernel_rfl) (by kernel_rfl) (by kernel_rfl) (fun _ _ _ _ h => h) (by rfl) ?_; apply Exists.intro; refine ⟨fun v1 => ?_, ?_⟩; (· (go_simp; rfl)); simp only [Act.put, List.setIfInBounds_toArray, List.set_cons_zero, List.set_cons_succ]
  clear q1
  refine anyU_one 8 rfl (by kernel_rfl) (by rfl) ?_
  refine wp_enter 40 #[.int .u16 (n : Int)] (by go_simp) ?_
  refine (HB.out Wd).mono ?_
  rintro e W1 ⟨rfl, rfl⟩
  refine ⟨Rj_out (by rfl) (Later.refl _), ?_⟩
  simp only [Act.put, List.setIfInBounds_toArray, List.set_cons_zero, List.set_cons_succ]
  refine anyU_pure Later.refl (But.refl _) 9 rfl (by kernel_rfl) (by kernel_rfl) (by kernel_rfl) (fun _ _ _ _ h => h) (by rfl) ?_; apply Exists.intro; refine ⟨fun v1 => ?_, ?_⟩; (· (go_simp; rfl)); simp only [Act.put, List.setIfInBounds_toArray, List.set_cons_zero, List.set_cons_succ]
  rw [HAN.out]
  refine anyU_pure Later.refl (But.refl _) 12 rfl (by kernel_rfl) (by kernel_rfl) (by kernel_rfl) (fun _ _ _ _ h => h) (by rfl) ?_; apply Exists.intro; refine ⟨fun v1 => ?_, ?_⟩; (· (go_simp; rfl)); simp only [Act.put, List.setIfInBounds_toArray, List.set_cons_zero, List.set_cons_succ]
  have hfin : PB base (W1.setCell ⟨b, 2 + i, none⟩ (.int .u64 ((ws i &&& (18446744073709551615 - c) : Nat) : Int))) b low high (upd ws i (ws i &&& (18446744073709551615 - c))) := by
    refine ⟨hTd.1, fun j => ?_, ?_⟩
    · unfold upd
      split
      · exact HLT.out
      · exact hTd.2.1 j
    · rw [← HST.out]
      exact heap_set1 hTd.2.2 (2 + i) _
  have hbS : But (fun g => g = b) W1 (W1.setCell ⟨b, 2 + i, none⟩ (.int .u64 ((ws i &&& (18446744073709551615 - c) : Nat) : Int))) := (But.refl (fun g => g = b) _).setCell (p := ⟨b, 2 + i, none⟩) rfl _
  have F1 := block_frozen hTd.2.2
  have k1 := HQ.out W1 hTd
  have HF := hide hfin
  have HBS := hide hbS
  clear hfin hbS
  generalize hzz : ws i &&& (18446744073709551615 - c) = z at *
  refine anyU_one 13 rfl (by kernel_rfl) (by rfl) ?_
  unfold Oper.wp
  go_simp
  refine ⟨Rj_in (by rfl) HBS.out, ?_⟩
  refine anyU_done (by kernel_rfl) ?_
  generalize hV : World.setCell _ _ _ = V at *
  go_end0
  exact ⟨⟨_, rfl⟩, HF.out, (But.of ld).trans HBS.out⟩

theorem div_mod_eq {m n : Nat} (h1 : m / 64 = n / 64) (h2 : m % 64 = n % 64) : m = n := by omega
theorem fr_add (ws : Nat → Nat) (n m : Nat) : fr (upd ws (n / 64) (ws (n / 64) ||| 2 ^ (n % 64))) m = (fr ws m || decide (m = n)) := by
  unfold fr upd
  by_cases h : m / 64 = n / 64
  · rw [if_pos h, Nat.testBit_or, Nat.testBit_two_pow, h]
    congr 1
    rw [decide_eq_decide]
    constructor
    · intro e; exact div_mod_eq h e.symm
    · intro e; rw [e]
  · rw [if_neg h]
    have : ¬ m = n := fun e => h (by rw [e])
    simp [this]
theorem fr_remove (ws : Nat → Nat) (n m : Nat) : fr (upd ws (n / 64) (ws (n / 64) &&& (18446744073709551615 - 2 ^ (n % 64)))) m = (fr ws m && !decide (m = n)) := by
  unfold fr upd
  by_cases h : m / 64 = n / 64
  · rw [if_pos h, Nat.testBit_and, h]
    have hp := pow_lt64 n
    have e := Nat.testBit_two_pow_sub_succ (n := 64) (x := 2 ^ (n % 64)) (by simpa using hp) (m % 64)
    rw [show (2 : Nat) ^ 64 - (2 ^ (n % 64) + 1) = 18446744073709551615 - 2 ^ (n % 64) from by omega] at e
    rw [e, Nat.testBit_two_pow]
    have hm : m % 64 < 64 := Nat.mod_lt _ (by omega)
    have : decide (n % 64 = m % 64) = decide (m = n) := by
      rw [decide_eq_decide]
      constructor
      · intro e; exact div_mod_eq h e.symm
      · intro e; rw [e]
    rw [this]
    simp [hm]
  · rw [if_neg h]
    have : ¬ m = n := fun e => h (by rw [e])
    simp [this]
end Go.Proofs.YtomdccljoaieeaaDoor
