/- Mathematics of words of 64 bits: the count of ones. -/
import Derived.Test.YtomdccljoaieeaaDoorChecked
namespace Go.Proofs.YtomdccljoaieeaaDoor.Pm
set_option maxRecDepth 100000
/-- Ones among the first n bits. -/
def pcn (n x : Nat) : Nat := (List.range n).countP (fun i => x.testBit i)
theorem tb (a b j : Nat) (h : b < 256) : (a * 256 + b).testBit j = if j < 8 then b.testBit j else a.testBit (j - 8) := by
  have := Nat.testBit_two_pow_mul_add a (b := b) (i := 8) (by simpa using h) j
  rw [show (2 : Nat) ^ 8 = 256 from rfl] at this
  rw [Nat.mul_comm a 256]
  exact this
theorem pcn_byte (k a b : Nat) (h : b < 256) : pcn (8 + k) (a * 256 + b) = pcn 8 b + pcn k a := by
  unfold pcn
  rw [List.range_add, List.countP_append]
  congr 1
  · refine List.countP_congr fun i hi => ?_
    have : i < 8 := by simpa using hi
    rw [tb a b i h, if_pos this]
  · rw [List.countP_map]
    refine List.countP_congr fun i hi => ?_
    simp only [Function.comp]
    rw [tb a b (8 + i) h, if_neg (by omega), Nat.add_sub_cancel_left]
def M (v : Nat) : Nat → Nat
  | 0 => 0
  | n + 1 => M v n * 256 + v
theorem land_byte (a b c d : Nat) (hb : b < 256) (hd : d < 256) : (a * 256 + b) &&& (c * 256 + d) = (a &&& c) * 256 + (b &&& d) := by
  have hbd : b &&& d < 256 := Nat.lt_of_le_of_lt Nat.and_le_left hb
  apply Nat.eq_of_testBit_eq
  intro j
  rw [Nat.testBit_and, tb a b j hb, tb c d j hd, tb _ _ j hbd]
  split <;> rw [Nat.testBit_and]
def f1 (n x : Nat) : Nat := (x / 2 &&& M 85 n) + (x &&& M 85 n)
def f2 (n x : Nat) : Nat := (x / 4 &&& M 51 n) + (x &&& M 51 n)
def f3 (n x : Nat) : Nat := (x / 16 + x) &&& M 15 n
def h1 (b : Nat) : Nat := (b / 2 &&& 85) + (b &&& 85)
def h2 (b : Nat) : Nat := (b / 4 &&& 51) + (b &&& 51)
theorem bb1 : ∀ b, b < 256 → ∀ t, t < 2 → ((t * 128 + b / 2) &&& 85) = (b / 2 &&& 85) := by decide +kernel
theorem bb2 : ∀ b, b < 256 → ∀ t, t < 4 → ((t * 64 + b / 4) &&& 51) = (b / 4 &&& 51) := by decide +kernel
theorem bb3 : ∀ b, b < 256 → h1 b < 256 ∧ h2 (h1 b) < 256 ∧ h2 (h1 b) % 16 ≤ 4 ∧ h2 (h1 b) ≤ 68 ∧ (h2 (h1 b) / 16 + h2 (h1 b)) % 16 = pcn 8 b ∧ pcn 8 b ≤ 8 := by decide +kernel
theorem f1_byte (n a b : Nat) (h : b < 256) : f1 (n + 1) (a * 256 + b) = f1 n a * 256 + h1 b := by
  unfold f1 h1
  rw [show M 85 (n + 1) = M 85 n * 256 + 85 from rfl, show (a * 256 + b) / 2 = (a / 2) * 256 + ((a % 2) * 128 + b / 2) from by omega, land_byte _ _ _ _ (by omega) (by omega), land_byte _ _ _ _ h (by omega), bb1 b h (a % 2) (by omega)]
  omega
theorem f2_byte (n a b : Nat) (h : b < 256) : f2 (n + 1) (a * 256 + b) = f2 n a * 256 + h2 b := by
  unfold f2 h2
  rw [show M 51 (n + 1) = M 51 n * 256 + 51 from rfl, show (a * 256 + b) / 4 = (a / 4) * 256 + ((a % 4) * 64 + b / 4) from by omega, land_byte _ _ _ _ (by omega) (by omega), land_byte _ _ _ _ h (by omega), bb2 b h (a % 4) (by omega)]
  omega
theorem land15 (x : Nat) : x &&& 15 = x % 16 := Nat.and_two_pow_sub_one_eq_mod x 4
theorem f3_byte (n a b : Nat) (h : b ≤ 68) (ha : a % 16 ≤ 4) : f3 (n + 1) (a * 256 + b) = f3 n a * 256 + (b / 16 + b) % 16 := by
  unfold f3
  rw [show M 15 (n + 1) = M 15 n * 256 + 15 from rfl, show (a * 256 + b) / 16 + (a * 256 + b) = (a / 16 + a) * 256 + ((a % 16) * 16 + (b / 16 + b)) from by omega, land_byte _ _ _ _ (by omega) (by omega), land15]
  omega
def F (n x : Nat) : Nat := f3 n (f2 n (f1 n x))
theorem low_nib : ∀ n x, f2 n (f1 n x) % 16 ≤ 4
  | 0, x => by simp [f2, f1, M]
  | n + 1, x => by
    have e : x = (x / 256) * 256 + x % 256 := by omega
    have hb : x % 256 < 256 := by omega
    rw [e, f1_byte _ _ _ hb, f2_byte _ _ _ (bb3 _ hb).1]
    have := (bb3 _ hb).2.2.1
    omega
theorem F_byte (n a b : Nat) (h : b < 256) : F (n + 1) (a * 256 + b) = F n a * 256 + pcn 8 b := by
  obtain ⟨q1, q2, q3, q4, q5, q6⟩ := bb3 b h
  unfold F
  rw [f1_byte _ _ _ h, f2_byte _ _ _ q1, f3_byte _ _ _ q4 (low_nib n a), q5]
theorem sum8 (x : Nat) (hx : x < 18446744073709551616) : ∃ c0 c1 c2 c3 c4 c5 c6 c7, c0 ≤ 8 ∧ c1 ≤ 8 ∧ c2 ≤ 8 ∧ c3 ≤ 8 ∧ c4 ≤ 8 ∧ c5 ≤ 8 ∧ c6 ≤ 8 ∧ c7 ≤ 8 ∧ F 8 x = ((((((c7 * 256 + c6) * 256 + c5) * 256 + c4) * 256 + c3) * 256 + c2) * 256 + c1) * 256 + c0 ∧ pcn 64 x = c0 + c1 + c2 + c3 + c4 + c5 + c6 + c7 := by
  have e : ∀ y : Nat, y = (y / 256) * 256 + y % 256 := fun y => by omega
  have hb : ∀ y : Nat, y % 256 < 256 := fun y => by omega
  have st : ∀ n y, F (n + 1) y = F n (y / 256) * 256 + pcn 8 (y % 256) := fun n y => (congrArg (F (n + 1)) (e y)).trans (F_byte n _ _ (hb y))
  have sp : ∀ n y, pcn (8 + n) y = pcn 8 (y % 256) + pcn n (y / 256) := fun n y => (congrArg (pcn (8 + n)) (e y)).trans (pcn_byte n _ _ (hb y))
  have c8 : ∀ y, pcn 8 (y % 256) ≤ 8 := fun y => (bb3 _ (hb y)).2.2.2.2.2
  refine ⟨pcn 8 (x % 256), pcn 8 (x / 256 % 256), pcn 8 (x / 256 / 256 % 256), pcn 8 (x / 256 / 256 / 256 % 256), pcn 8 (x / 256 / 256 / 256 / 256 % 256), pcn 8 (x / 256 / 256 / 256 / 256 / 256 % 256), pcn 8 (x / 256 / 256 / 256 / 256 / 256 / 256 % 256), pcn 8 (x / 256 / 256 / 256 / 256 / 256 / 256 / 256 % 256), c8 _, c8 _, c8 _, c8 _, c8 _, c8 _, c8 _, c8 _, ?_, ?_⟩
  · rw [st 7, st 6, st 5, st 4, st 3, st 2, st 1, st 0]
    have : F 0 (x / 256 / 256 / 256 / 256 / 256 / 256 / 256 / 256) = 0 := by simp [F, f3, M]
    rw [this]
    omega
  · rw [show (64 : Nat) = 8 + 56 from rfl, sp 56, show (56 : Nat) = 8 + 48 from rfl, sp 48, show (48 : Nat) = 8 + 40 from rfl, sp 40, show (40 : Nat) = 8 + 32 from rfl, sp 32, show (32 : Nat) = 8 + 24 from rfl, sp 24, show (24 : Nat) = 8 + 16 from rfl, sp 16, show (16 : Nat) = 8 + 8 from rfl, sp 8]
    rw [show x / 256 / 256 / 256 / 256 / 256 / 256 / 256 % 256 = x / 256 / 256 / 256 / 256 / 256 / 256 / 256 from Nat.mod_eq_of_lt (by omega)]
    omega
set_option maxRecDepth 100000 in
/-- The count of ones, as the library's words reckon it. -/
theorem ones_sum (x : Nat) (hx : x < 18446744073709551616) : ∃ y1 y2 y3, y1 = F 8 x + F 8 x / 256 ∧ y2 = y1 + y1 / 65536 ∧ y3 = y2 + y2 / 4294967296 ∧ F 8 x < 18446744073709551616 ∧ y1 < 18446744073709551616 ∧ y2 < 18446744073709551616 ∧ y3 < 9223372036854775808 ∧ y3 % 128 = pcn 64 x := by
  obtain ⟨c0, c1, c2, c3, c4, c5, c6, c7, h0, h1, h2, h3, h4, h5, h6, h7, hF, hp⟩ := sum8 x hx
  have d1 : F 8 x / 256 = (((((c7 * 256 + c6) * 256 + c5) * 256 + c4) * 256 + c3) * 256 + c2) * 256 + c1 := by rw [hF]; omega
  have e1 : F 8 x + F 8 x / 256 = (((((((c7) * 256 + (c6 + c7)) * 256 + (c5 + c6)) * 256 + (c4 + c5)) * 256 + (c3 + c4)) * 256 + (c2 + c3)) * 256 + (c1 + c2)) * 256 + (c0 + c1) := by rw [d1, hF]; omega
  have d2 : (F 8 x + F 8 x / 256) / 65536 = (((((c7) * 256 + (c6 + c7)) * 256 + (c5 + c6)) * 256 + (c4 + c5)) * 256 + (c3 + c4)) * 256 + (c2 + c3) := by rw [e1]; omega
  have e2 : (F 8 x + F 8 x / 256) + (F 8 x + F 8 x / 256) / 65536 = (((((((c7) * 256 + (c6 + c7)) * 256 + (c5 + c6 + c7)) * 256 + (c4 + c5 + c6 + c7)) * 256 + (c3 + c4 + c5 + c6)) * 256 + (c2 + c3 + c4 + c5)) * 256 + (c1 + c2 + c3 + c4)) * 256 + (c0 + c1 + c2 + c3) := by rw [d2, e1]; omega
  have d3 : ((F 8 x + F 8 x / 256) + (F 8 x + F 8 x / 256) / 65536) / 4294967296 = (((c7) * 256 + (c6 + c7)) * 256 + (c5 + c6 + c7)) * 256 + (c4 + c5 + c6 + c7) := by rw [e2]; omega
  have e3 : ((F 8 x + F 8 x / 256) + (F 8 x + F 8 x / 256) / 65536) + ((F 8 x + F 8 x / 256) + (F 8 x + F 8 x / 256) / 65536) / 4294967296 = (((((((c7) * 256 + (c6 + c7)) * 256 + (c5 + c6 + c7)) * 256 + (c4 + c5 + c6 + c7)) * 256 + (c3 + c4 + c5 + c6 + c7)) * 256 + (c2 + c3 + c4 + c5 + c6 + c7)) * 256 + (c1 + c2 + c3 + c4 + c5 + c6 + c7)) * 256 + (c0 + c1 + c2 + c3 + c4 + c5 + c6 + c7) := by rw [d3, e2]; clear hF d1 e1 d2 e2 d3 hp; omega
  refine ⟨_, _, _, rfl, rfl, rfl, ?_, ?_, ?_, ?_, ?_⟩
  · rw [hF]; clear hF d1 e1 d2 e2 d3 e3 hp; omega
  · rw [e1]; clear hF d1 e1 d2 e2 d3 e3 hp; omega
  · rw [e2]; clear hF d1 e1 d2 e2 d3 e3 hp; omega
  · rw [e3]; clear hF d1 e1 d2 e2 d3 e3 hp; omega
  · rw [e3, hp]
    clear hF d1 e1 d2 e2 d3 e3 hp
    generalize (((((((c7) * 256 + (c6 + c7)) * 256 + (c5 + c6 + c7)) * 256 + (c4 + c5 + c6 + c7)) * 256 + (c3 + c4 + c5 + c6 + c7)) * 256 + (c2 + c3 + c4 + c5 + c6 + c7)) * 256 + (c1 + c2 + c3 + c4 + c5 + c6 + c7)) = U
    have hS : c0 + c1 + c2 + c3 + c4 + c5 + c6 + c7 ≤ 64 := by omega
    generalize c0 + c1 + c2 + c3 + c4 + c5 + c6 + c7 = S at *
    clear h0 h1 h2 h3 h4 h5 h6 h7
    omega
end Go.Proofs.YtomdccljoaieeaaDoor.Pm
