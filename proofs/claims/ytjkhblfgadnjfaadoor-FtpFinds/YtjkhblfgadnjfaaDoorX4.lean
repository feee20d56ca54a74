/- Several texts in one. -/
import Derived.Shelf.LaysM
import Derived.Shelf.Strconv.Itoa3
import Derived.Shelf.Strings.OnBuilder
import Derived.Shelf.Spec.DecodeRune
import Derived.Test.YtjkhblfgadnjfaaDoorProg
import Derived.Lib.IndexEntry
import Derived.Lib.Bytealg
import Derived.Test.YtjkhblfgadnjfaaDoorFV
import Derived.Test.YtjkhblfgadnjfaaDoorFB
import Derived.Test.YtjkhblfgadnjfaaDoorFM
import Derived.Test.YtjkhblfgadnjfaaDoorFK
import Derived.Lib.AppendZeros
import Derived.Deep.Cut
import Derived.Test.YtjkhblfgadnjfaaDoorRt
import Derived.Test.YtjkhblfgadnjfaaDoorCA
import Derived.Test.YtjkhblfgadnjfaaDoorVS
import Derived.ScopeJumps
import Derived.WalkMore
/- How functions of Go's library lie in this program: function by function, type by type. (The numbers are of the seat YtjkhblfgadnjfaaDoor: printed anew for another one by tools/mkshelf.py.) -/
namespace Go.Proofs.YtjkhblfgadnjfaaDoor
open Go.Shelf
set_option maxRecDepth 100000
def itoaL_ren : Go.Shelf.Ren := ⟨fun | 171 => 33 | 243 => 46 | 246 => 56 | 283 => 70 | 284 => 71 | 285 => 72 | 286 => 73 | 129 => 82 | 317 => 81 | 318 => 83 | 319 => 84 | 320 => 85 | 337 => 89 | 338 => 90 | n => n, fun | 3 => 3 | 9 => 9 | 2 => 2 | 4 => 4 | 171 => 116 | 0 => 0 | 53 => 117 | 37 => 22 | 5 => 5 | 173 => 120 | 212 => 127 | 51 => 24 | 20 => 20 | 213 => 128 | 46 => 65 | 232 => 138 | 233 => 139 | n => n, fun | 17 => 1 | 18 => 4 | 19 => 5 | n => n⟩
theorem itoaL : Go.Proofs.LaysM.n171 Tryd.prog itoaL_ren := {
  mixed := by kernel_rfl
  f129 := Tryd.func82.trans (congrArg some (by kernel_rfl))
  f171 := Tryd.func33.trans (congrArg some (by kernel_rfl))
  f243 := Tryd.func46.trans (congrArg some (by kernel_rfl))
  f246 := Tryd.func56.trans (congrArg some (by kernel_rfl))
  f283 := Tryd.func70.trans (congrArg some (by kernel_rfl))
  f284 := Tryd.func71.trans (congrArg some (by kernel_rfl))
  f285 := Tryd.func72.trans (congrArg some (by kernel_rfl))
  f286 := Tryd.func73.trans (congrArg some (by kernel_rfl))
  f317 := Tryd.func81.trans (congrArg some (by kernel_rfl))
  f318 := Tryd.func83.trans (congrArg some (by kernel_rfl))
  f319 := Tryd.func84.trans (congrArg some (by kernel_rfl))
  f320 := Tryd.func85.trans (congrArg some (by kernel_rfl))
  f337 := Tryd.func89.trans (congrArg some (by kernel_rfl))
  f338 := Tryd.func90.trans (congrArg some (by kernel_rfl))
  t0 := Tryd.underlying0
  a0 := Tryd.isAgg0
  z0 := Tryd.sizeOf0
  v0 := Tryd.zeroValue0
  t2 := Tryd.underlying2
  a2 := Tryd.isAgg2
  z2 := Tryd.sizeOf2
  v2 := Tryd.zeroValue2
  t3 := Tryd.underlying3
  a3 := Tryd.isAgg3
  z3 := Tryd.sizeOf3
  v3 := Tryd.zeroValue3
  t4 := Tryd.underlying4
  a4 := Tryd.isAgg4
  z4 := Tryd.sizeOf4
  v4 := Tryd.zeroValue4
  t5 := Tryd.underlying5
  a5 := Tryd.isAgg5
  z5 := Tryd.sizeOf5
  v5 := Tryd.zeroValue5
  t9 := Tryd.underlying9
  a9 := Tryd.isAgg9
  z9 := Tryd.sizeOf9
  v9 := Tryd.zeroValue9
  t20 := Tryd.underlying20
  a20 := Tryd.isAgg20
  z20 := Tryd.sizeOf20
  v20 := Tryd.zeroValue20
  t37 := Tryd.underlying22
  a37 := Tryd.isAgg22
  z37 := Tryd.sizeOf22
  v37 := Tryd.zeroValue22
  t46 := Tryd.underlying65
  a46 := Tryd.isAgg65
  z46 := Tryd.sizeOf65
  v46 := Tryd.zeroValue65
  t51 := Tryd.underlying24
  a51 := Tryd.isAgg24
  z51 := Tryd.sizeOf24
  v51 := Tryd.zeroValue24
  t53 := Tryd.underlying117
  a53 := Tryd.isAgg117
  z53 := Tryd.sizeOf117
  v53 := Tryd.zeroValue117
  t171 := Tryd.underlying116
  a171 := Tryd.isAgg116
  z171 := Tryd.sizeOf116
  v171 := Tryd.zeroValue116
  t173 := Tryd.underlying120
  a173 := Tryd.isAgg120
  z173 := Tryd.sizeOf120
  v173 := Tryd.zeroValue120
  t212 := Tryd.underlying127
  a212 := Tryd.isAgg127
  z212 := Tryd.sizeOf127
  v212 := Tryd.zeroValue127
  t213 := Tryd.underlying128
  a213 := Tryd.isAgg128
  z213 := Tryd.sizeOf128
  t232 := Tryd.underlying138
  a232 := Tryd.isAgg138
  z232 := Tryd.sizeOf138
  v232 := Tryd.zeroValue138
  t233 := Tryd.underlying139
  a233 := Tryd.isAgg139
  z233 := Tryd.sizeOf139
  v233 := Tryd.zeroValue139
  g17 := by kernel_rfl
  g18 := by kernel_rfl
  g19 := by kernel_rfl
  i0 := by kernel_rfl
  i2 := by kernel_rfl
  i3 := by kernel_rfl
  i4 := by kernel_rfl
  i5 := by kernel_rfl
  i9 := by kernel_rfl
  i20 := by kernel_rfl
  i37 := by kernel_rfl
  i46 := by kernel_rfl
  i51 := by kernel_rfl
  i53 := by kernel_rfl
  i171 := by kernel_rfl
  i173 := by kernel_rfl
  i212 := by kernel_rfl
  i232 := by kernel_rfl
  i233 := by kernel_rfl
  m17 := by kernel_rfl
  m18 := by kernel_rfl
  m19 := by kernel_rfl }
def itoaS_ren : Go.Shelf.Ren := ⟨fun | 171 => 33 | 243 => 46 | 246 => 56 | 283 => 70 | 284 => 71 | 285 => 72 | 286 => 73 | 129 => 82 | 317 => 81 | 318 => 83 | 319 => 84 | 320 => 85 | 337 => 89 | 338 => 90 | n => n, fun | 3 => 3 | 9 => 9 | 2 => 2 | 4 => 4 | 171 => 116 | 0 => 0 | 53 => 117 | 37 => 22 | 5 => 5 | 173 => 120 | 212 => 127 | 51 => 24 | 20 => 20 | 213 => 128 | 46 => 65 | 232 => 138 | 233 => 139 | n => n, fun | 17 => 1 | 18 => 4 | 19 => 5 | n => n⟩
theorem itoaS : Go.Proofs.Lays.n171 Tryd.prog itoaS_ren := {
  mixed := by kernel_rfl
  f129 := Tryd.func82.trans (congrArg some (by kernel_rfl))
  f171 := Tryd.func33.trans (congrArg some (by kernel_rfl))
  f243 := Tryd.func46.trans (congrArg some (by kernel_rfl))
  f246 := Tryd.func56.trans (congrArg some (by kernel_rfl))
  f283 := Tryd.func70.trans (congrArg some (by kernel_rfl))
  f284 := Tryd.func71.trans (congrArg some (by kernel_rfl))
  f285 := Tryd.func72.trans (congrArg some (by kernel_rfl))
  f286 := Tryd.func73.trans (congrArg some (by kernel_rfl))
  f317 := Tryd.func81.trans (congrArg some (by kernel_rfl))
  f318 := Tryd.func83.trans (congrArg some (by kernel_rfl))
  f319 := Tryd.func84.trans (congrArg some (by kernel_rfl))
  f320 := Tryd.func85.trans (congrArg some (by kernel_rfl))
  f337 := Tryd.func89.trans (congrArg some (by kernel_rfl))
  f338 := Tryd.func90.trans (congrArg some (by kernel_rfl))
  t0 := Tryd.underlying0
  a0 := Tryd.isAgg0
  z0 := Tryd.sizeOf0
  v0 := Tryd.zeroValue0
  t2 := Tryd.underlying2
  a2 := Tryd.isAgg2
  z2 := Tryd.sizeOf2
  v2 := Tryd.zeroValue2
  t3 := Tryd.underlying3
  a3 := Tryd.isAgg3
  z3 := Tryd.sizeOf3
  v3 := Tryd.zeroValue3
  t4 := Tryd.underlying4
  a4 := Tryd.isAgg4
  z4 := Tryd.sizeOf4
  v4 := Tryd.zeroValue4
  t5 := Tryd.underlying5
  a5 := Tryd.isAgg5
  z5 := Tryd.sizeOf5
  v5 := Tryd.zeroValue5
  t9 := Tryd.underlying9
  a9 := Tryd.isAgg9
  z9 := Tryd.sizeOf9
  v9 := Tryd.zeroValue9
  t20 := Tryd.underlying20
  a20 := Tryd.isAgg20
  z20 := Tryd.sizeOf20
  v20 := Tryd.zeroValue20
  t37 := Tryd.underlying22
  a37 := Tryd.isAgg22
  z37 := Tryd.sizeOf22
  v37 := Tryd.zeroValue22
  t46 := Tryd.underlying65
  a46 := Tryd.isAgg65
  z46 := Tryd.sizeOf65
  v46 := Tryd.zeroValue65
  t51 := Tryd.underlying24
  a51 := Tryd.isAgg24
  z51 := Tryd.sizeOf24
  v51 := Tryd.zeroValue24
  t53 := Tryd.underlying117
  a53 := Tryd.isAgg117
  z53 := Tryd.sizeOf117
  v53 := Tryd.zeroValue117
  t171 := Tryd.underlying116
  a171 := Tryd.isAgg116
  z171 := Tryd.sizeOf116
  v171 := Tryd.zeroValue116
  t173 := Tryd.underlying120
  a173 := Tryd.isAgg120
  z173 := Tryd.sizeOf120
  v173 := Tryd.zeroValue120
  t212 := Tryd.underlying127
  a212 := Tryd.isAgg127
  z212 := Tryd.sizeOf127
  v212 := Tryd.zeroValue127
  t213 := Tryd.underlying128
  a213 := Tryd.isAgg128
  z213 := Tryd.sizeOf128
  t232 := Tryd.underlying138
  a232 := Tryd.isAgg138
  z232 := Tryd.sizeOf138
  v232 := Tryd.zeroValue138
  t233 := Tryd.underlying139
  a233 := Tryd.isAgg139
  z233 := Tryd.sizeOf139
  v233 := Tryd.zeroValue139
  g17 := by kernel_rfl
  g18 := by kernel_rfl
  g19 := by kernel_rfl }
def joinL_ren : Go.Shelf.Ren := ⟨fun | 156 => 47 | 165 => 57 | 166 => 58 | 169 => 59 | 240 => 74 | 241 => 75 | 276 => 86 | 277 => 87 | n => n, fun | 31 => 83 | 9 => 9 | 3 => 3 | 4 => 4 | 0 => 0 | 20 => 20 | 72 => 97 | 76 => 101 | 70 => 95 | 37 => 22 | 75 => 100 | 127 => 122 | 164 => 130 | 5 => 5 | 80 => 89 | n => n, fun | n => n⟩
theorem joinL : Go.Proofs.Lays.n156 Tryd.prog joinL_ren := {
  mixed := by kernel_rfl
  f156 := Tryd.func47.trans (congrArg some (by kernel_rfl))
  f165 := Tryd.func57.trans (congrArg some (by kernel_rfl))
  f166 := Tryd.func58.trans (congrArg some (by kernel_rfl))
  f169 := Tryd.func59.trans (congrArg some (by kernel_rfl))
  f240 := Tryd.func74.trans (congrArg some (by kernel_rfl))
  f241 := Tryd.func75.trans (congrArg some (by kernel_rfl))
  f276 := Tryd.func86.trans (congrArg some (by kernel_rfl))
  f277 := Tryd.func87.trans (congrArg some (by kernel_rfl))
  t0 := Tryd.underlying0
  a0 := Tryd.isAgg0
  z0 := Tryd.sizeOf0
  v0 := Tryd.zeroValue0
  t3 := Tryd.underlying3
  a3 := Tryd.isAgg3
  z3 := Tryd.sizeOf3
  v3 := Tryd.zeroValue3
  t4 := Tryd.underlying4
  a4 := Tryd.isAgg4
  z4 := Tryd.sizeOf4
  v4 := Tryd.zeroValue4
  t9 := Tryd.underlying9
  a9 := Tryd.isAgg9
  z9 := Tryd.sizeOf9
  v9 := Tryd.zeroValue9
  t20 := Tryd.underlying20
  a20 := Tryd.isAgg20
  z20 := Tryd.sizeOf20
  v20 := Tryd.zeroValue20
  t31 := Tryd.underlying83
  a31 := Tryd.isAgg83
  z31 := Tryd.sizeOf83
  v31 := Tryd.zeroValue83
  t37 := Tryd.underlying22
  a37 := Tryd.isAgg22
  z37 := Tryd.sizeOf22
  v37 := Tryd.zeroValue22
  t70 := Tryd.underlying95
  a70 := Tryd.isAgg95
  z70 := Tryd.sizeOf95
  v70 := Tryd.zeroValue95
  t72 := Tryd.underlying97
  a72 := Tryd.isAgg97
  z72 := Tryd.sizeOf97
  v72 := Tryd.zeroValue97
  t75 := Tryd.underlying100
  a75 := Tryd.isAgg100
  z75 := Tryd.sizeOf100
  v75 := Tryd.zeroValue100
  t76 := Tryd.underlying101
  a76 := Tryd.isAgg101
  z76 := Tryd.sizeOf101
  v76 := Tryd.zeroValue101
  t127 := Tryd.underlying122
  a127 := Tryd.isAgg122
  z127 := Tryd.sizeOf122
  v127 := Tryd.zeroValue122
  t164 := Tryd.underlying130
  a164 := Tryd.isAgg130
  z164 := Tryd.sizeOf130
  v164 := Tryd.zeroValue130 }
def runeL_ren : Go.Shelf.Ren := ⟨fun | 32 => 66 | 49 => 80 | n => n, fun | 30 => 22 | 21 => 21 | 3 => 3 | 0 => 0 | 5 => 5 | 4 => 4 | 33 => 110 | 66 => 133 | 25 => 65 | 69 => 136 | 68 => 135 | n => n, fun | 2 => 2 | 3 => 3 | n => n⟩
theorem runeL : Go.Proofs.Lays7.n32 Tryd.prog runeL_ren := {
  mixed := by kernel_rfl
  f32 := Tryd.func66.trans (congrArg some (by kernel_rfl))
  f49 := Tryd.func80.trans (congrArg some (by kernel_rfl))
  t0 := Tryd.underlying0
  a0 := Tryd.isAgg0
  z0 := Tryd.sizeOf0
  v0 := Tryd.zeroValue0
  i0 := by kernel_rfl
  t3 := Tryd.underlying3
  a3 := Tryd.isAgg3
  z3 := Tryd.sizeOf3
  v3 := Tryd.zeroValue3
  i3 := by kernel_rfl
  t4 := Tryd.underlying4
  a4 := Tryd.isAgg4
  z4 := Tryd.sizeOf4
  v4 := Tryd.zeroValue4
  i4 := by kernel_rfl
  t5 := Tryd.underlying5
  a5 := Tryd.isAgg5
  z5 := Tryd.sizeOf5
  v5 := Tryd.zeroValue5
  i5 := by kernel_rfl
  t21 := Tryd.underlying21
  a21 := Tryd.isAgg21
  z21 := Tryd.sizeOf21
  v21 := Tryd.zeroValue21
  i21 := by kernel_rfl
  t25 := Tryd.underlying65
  a25 := Tryd.isAgg65
  z25 := Tryd.sizeOf65
  v25 := Tryd.zeroValue65
  i25 := by kernel_rfl
  t30 := Tryd.underlying22
  a30 := Tryd.isAgg22
  z30 := Tryd.sizeOf22
  v30 := Tryd.zeroValue22
  i30 := by kernel_rfl
  t33 := Tryd.underlying110
  a33 := Tryd.isAgg110
  z33 := Tryd.sizeOf110
  v33 := Tryd.zeroValue110
  i33 := by kernel_rfl
  t66 := Tryd.underlying133
  a66 := Tryd.isAgg133
  z66 := Tryd.sizeOf133
  t68 := Tryd.underlying135
  a68 := Tryd.isAgg135
  z68 := Tryd.sizeOf135
  v68 := Tryd.zeroValue135
  i68 := by kernel_rfl
  t69 := Tryd.underlying136
  a69 := Tryd.isAgg136
  z69 := Tryd.sizeOf136
  v69 := Tryd.zeroValue136
  i69 := by kernel_rfl
  g2 := by kernel_rfl
  g3 := by kernel_rfl }
end Go.Proofs.YtjkhblfgadnjfaaDoor

/- Package bytes: whether a line's end stands in at most eight bytes. -/
namespace Go.Proofs.YtjkhblfgadnjfaaDoor
open Go.RowKit Go.Shelf
set_option maxRecDepth 100000
set_option linter.unusedVariables false
set_option linter.unusedSimpArgs false

theorem enc_size (c : Nat) (n : Nat) (h1 : 128 ≤ c) (h2 : c ≤ 1114111) (h3 : Utf8.valid (c : Int) = true) (h : (c < 2048 ∧ n = 2) ∨ (2048 ≤ c ∧ c < 65536 ∧ n = 3) ∨ (65536 ≤ c ∧ n = 4)) : (Utf8.encode (c : Int)).size = n := by
  unfold Utf8.encode
  simp only [h3, if_true, Int.toNat_natCast]
  rcases h with ⟨h, rfl⟩ | ⟨h, h', rfl⟩ | ⟨h, rfl⟩
  · rw [if_neg (by omega), if_pos (by omega)]; rfl
  · rw [if_neg (by omega), if_neg (by omega), if_pos (by omega)]; rfl
  · rw [if_neg (by omega), if_neg (by omega), if_neg (by omega)]; rfl
theorem dec_hi (s : ByteArray) (hs : 0 < s.size) (h0 : 128 ≤ (s.get! 0).toNat) : 1 ≤ (Utf8.decode s 0).2 ∧ (Utf8.decode s 0).2 ≤ s.size ∧ 128 ≤ (Utf8.decode s 0).1 ∧ (Utf8.decode s 0).1 ≤ 1114111 ∧ (∀ k, k < (Utf8.decode s 0).2 → 128 ≤ (s.get! k).toNat) ∧ ((Utf8.decode s 0).1 ≠ 65533 → 2 ≤ (Utf8.decode s 0).2 ∧ (Utf8.encode ((Utf8.decode s 0).1 : Int)).size = (Utf8.decode s 0).2) := by
  have hb : ∀ k, (s.get! k).toNat < 256 := fun k => (s.get! k).toNat_lt
  have b0 := hb 0; have b1 := hb 1; have b2 := hb 2; have b3 := hb 3
  have E : 1 ≤ (Utf8.runeError, 1).2 ∧ (Utf8.runeError, 1).2 ≤ s.size ∧ 128 ≤ (Utf8.runeError, 1).1 ∧ (Utf8.runeError, 1).1 ≤ 1114111 ∧ (∀ k, k < (Utf8.runeError, 1).2 → 128 ≤ (s.get! k).toNat) ∧ ((Utf8.runeError, 1).1 ≠ 65533 → 2 ≤ (Utf8.runeError, 1).2 ∧ (Utf8.encode ((Utf8.runeError, 1).1 : Int)).size = (Utf8.runeError, 1).2) := by
    refine ⟨Nat.le_refl _, hs, by decide, by decide, fun k hk => ?_, fun h => absurd rfl h⟩
    obtain rfl : k = 0 := by simp only at hk; omega
    exact h0
  unfold Utf8.decode
  simp only [Nat.zero_add]
  rw [if_neg (by omega)]
  split
  · rename_i h
    simp only [Bool.and_eq_true, beq_iff_eq, decide_eq_true_eq] at h
    split
    · rename_i hc
      refine ⟨by omega, by omega, by omega, by omega, fun k hk => ?_, fun _ => ⟨by omega, enc_size _ _ (by omega) (by omega) (by unfold Utf8.valid; simp; omega) (.inl ⟨by omega, rfl⟩)⟩⟩
      simp only at hk
      rcases (show k = 0 ∨ k = 1 by omega) with rfl | rfl <;> omega
    · exact E
  split
  · rename_i h
    simp only [Bool.and_eq_true, beq_iff_eq, decide_eq_true_eq] at h
    split
    · rename_i hc
      simp only [Bool.and_eq_true, decide_eq_true_eq, ge_iff_le] at hc
      refine ⟨by omega, by omega, by omega, by omega, fun k hk => ?_, fun _ => ⟨by omega, enc_size _ _ (by omega) (by omega) hc.2 (.inr (.inl ⟨by omega, by omega, rfl⟩))⟩⟩
      simp only at hk
      rcases (show k = 0 ∨ k = 1 ∨ k = 2 by omega) with rfl | rfl | rfl <;> omega
    · exact E
  split
  · rename_i h
    simp only [Bool.and_eq_true, beq_iff_eq, decide_eq_true_eq] at h
    split
    · rename_i hc
      simp only [Bool.and_eq_true, decide_eq_true_eq, ge_iff_le] at hc
      have hv := hc.2
      unfold Utf8.valid at hv
      simp at hv
      refine ⟨by omega, by omega, by omega, by omega, fun k hk => ?_, fun _ => ⟨by omega, enc_size _ _ (by omega) (by omega) hc.2 (.inr (.inr ⟨by omega, rfl⟩))⟩⟩
      simp only at hk
      rcases (show k = 0 ∨ k = 1 ∨ k = 2 ∨ k = 3 by omega) with rfl | rfl | rfl | rfl <;> omega
    · exact E
  exact E
theorem enc_ne (c : Nat) (h : 128 ≤ c) (h2 : c ≤ 1114111) : Utf8.encode (c : Int) ≠ ⟨#[13, 10]⟩ := by
  intro e
  have hs : (Utf8.encode (c : Int)).data = #[13, 10] := by rw [e]
  unfold Utf8.encode at hs
  simp only at hs
  generalize hc : (if Utf8.valid (c : Int) = true then (c : Int).toNat else Utf8.runeError) = d at hs
  have hd : 128 ≤ d := by rw [← hc]; split <;> simp [Utf8.runeError] <;> omega
  rw [if_neg (by omega)] at hs
  split at hs
  · have h3 := congrArg (fun a : Array UInt8 => (a[0]?.getD 0).toNat) hs
    simp at h3
    omega
  · split at hs <;> (have h3 := congrArg Array.size hs; simp at h3)

/-- What of Go's own tables the line's reading looks at: some number, and the two tables of runes. -/
def TabR (w : World) : Prop := (∃ m : Int, w.cell? ⟨0, 0, none⟩ = some (.int .i64 m)) ∧ Lib.Utf8Tabs (runeL_ren.g 2) (runeL_ren.g 3) w
theorem TabR.below {A B : World} (h : TabR A) (b : Below A.heap.size A B) : TabR B := by
  have k : ∀ (q : Addr) (v : Value), A.cell? q = some v → B.cell? q = some v := fun q v hv => by
    have hq : q.block < A.heap.size := by
      rcases Nat.lt_or_ge q.block A.heap.size with h | h
      · exact h
      · simp [World.cell?, Array.getElem?_eq_none h] at hv
    exact (b.cell hq).trans hv
  exact ⟨h.1.elim fun m hm => ⟨m, k _ _ hm⟩, fun c hc => k _ _ (h.2.1 c hc), fun i hi => ⟨k _ _ (h.2.2 i hi).1, k _ _ (h.2.2 i hi).2⟩⟩
theorem TabR.later {A B : World} (h : TabR A) (b : Later A B) : TabR B := h.below b
theorem rune_any (s : ByteArray) (b off cap : Nat) (w : World) (hT : TabR w) (hp : ∀ j, j < s.size → w.cell? ⟨b, off + j, none⟩ = some (.int .u8 (s.get! j).toNat)) (h0 : 0 < s.size) :
    Calls Tryd.prog 66 #[.slice (some ⟨b, off, none⟩) s.size cap] w fun e w' => e = .returned (.tuple #[.int .i32 (Utf8.decode s 0).1, .int .i64 (Utf8.decode s 0).2]) ∧ Below w.heap.size w w' := by
  have h := Any7.utf8_DecodeRune runeL s b off cap w hT.2 hp
  have e : Lib.decodeGo s = Utf8.decode s 0 := if_neg (by omega)
  rw [e] at h
  exact h

theorem any_more (zs : List Int) (k : Nat) (h : (zs.take k).any isCr = false) : ∀ n, k + n ≤ zs.length → (∀ j, j < n → 128 ≤ zs[k + j]?.getD 0) → (zs.take (k + n)).any isCr = false
  | 0, _, _ => h
  | n + 1, hl, hb => by
    have hlt : k + n < zs.length := by omega
    rw [← Nat.add_assoc, List.take_succ_eq_append_getElem hlt, List.any_append, any_more zs k h n (by omega) (fun j hj => hb j (by omega))]
    have := hb n (by omega)
    rw [List.getElem?_eq_getElem hlt] at this
    simp only [Option.getD_some] at this
    simp [isCr]
    omega
theorem index_room (b : List UInt8) (h : 2 < b.length) : Lib.index [13, 10] b = -1 := by
  refine Lib.index_none fun j _ => ?_
  cases ho : Lib.occAt [13, 10] b j with
  | false => rfl
  | true =>
    rcases Lib.occAt_room ho with h' | h'
    · simp at h'; omega
    · rw [h'] at h; simp at h
theorem index_enc (eb : ByteArray) (n : Nat) (h : eb.size = n) (h2 : 2 < n) : Lib.index (⟨#[13, 10]⟩ : ByteArray).data.toList eb.data.toList = -1 := index_room _ (by rw [Array.length_toList]; show 2 < eb.size; omega)
theorem index_run (eb : ByteArray) (n : Nat) (m : Int) (w : World) (hm : w.cell? ⟨0, 0, none⟩ = some (.int .i64 m)) (h : eb.size = n) (h2 : 2 < n) (hn : (n : Int) ≤ m) : (Extern.BytealgIndex.index #[.string ⟨#[13, 10]⟩, .string eb]).run Tryd.prog w = .ok (.int .i64 (-1)) w := by
  have h3 := Lib.run_indexString (P := Tryd.prog) ⟨#[13, 10]⟩ eb w 0 m (by kernel_rfl) hm (by omega) (by omega) (by decide)
  rw [index_enc eb n h h2] at h3
  exact h3
theorem ixcr_nat : ∀ n : Nat, n < 256 → decide (0 ≤ Lib.indexByte [13, 10] n.toUInt8) = isCr (n : Int) := by decide +kernel
theorem ixcr (c : Int) (h : 0 ≤ c ∧ c ≤ 255) : decide (0 ≤ Lib.indexByte [13, 10] c.toNat.toUInt8) = isCr c := by
  obtain ⟨n, rfl⟩ : ∃ n : Nat, c = (n : Int) := ⟨c.toNat, by omega⟩
  exact ixcr_nat n (by omega)

set_option maxHeartbeats 4000000 in
theorem indexCr_short (sv : Value) (zs : List Int) (w : World) (hT : TabR w) (hB : Mt.By zs) (hI : Rd w.heap.size w sv zs) (h8 : zs.length ≤ 8) (h1 : zs.length ≠ 1) :
    Calls Tryd.prog 49 #[sv, .string ⟨#[13, 10]⟩] w fun e w' => ∃ r : Int, e = .returned (.int .i64 r) ∧ decide (0 ≤ r) = crl zs ∧ Below w.heap.size w w' := by
  obtain ⟨av, cv, rfl, hlv, hmv⟩ := hI.slice
  have t1 : ((zs.length : Int) == 1) = false := by simp; omega
  have t8 : decide (8 < (zs.length : Int)) = false := by simp; omega
  have HT := hide hT
  clear hT
  go_enter Tryd.func49, Tryd.ntmps49
  go_upto_region 20 with fail
  clear t1
  go_wp2_with fail
  refine (useSet_any _ w).mono ?_
  rintro e w1 ⟨rfl, rfl⟩
  go_wp2_with fail
  clear t8
  go_loopw [12] (fun iv wr => ∃ k : Nat, k ≤ zs.length ∧ iv = .int .i64 (k : Int) ∧ (zs.take k).any isCr = false ∧ Later w1 wr) (fun iv _ => zs.length - (intOf iv).toNat)
  case atStart => exact ⟨0, by omega, rfl, rfl, Later.refl _⟩
  case round =>
    obtain ⟨k, hk, rfl, hno, l1⟩ := hrel
    by_cases hlt : k < zs.length
    · have hlt' : (k : Int) < zs.length := by omega
      obtain ⟨bb, off, cp, he, hl5, hl6, hl7, hcell⟩ := (hI.later l1).cells (by omega)
      obtain ⟨rfl, rfl⟩ : av = some ⟨bb, off, none⟩ ∧ cv = cp := by injection he with h1 h2 h3; exact ⟨h1, h3⟩
      clear he
      have hck := hcell k hlt
      have hzb := Mt.By.at hB k
      have HC := hide hcell
      clear hcell
      have HTk : Hid ((zs.take (k + 1)).any isCr = ((zs.take k).any isCr || isCr (zs[k]?.getD 0))) := by
        show _ = _
        rw [List.take_succ_eq_append_getElem hlt, List.any_append, List.getElem?_eq_getElem hlt]
        simp
      have HA : Hid (isCr (zs[k]?.getD 0) = true → crl zs = true) := fun h => by
        unfold crl
        rw [List.any_eq_true]
        refine ⟨zs[k]?.getD 0, ?_, h⟩
        rw [List.getElem?_eq_getElem hlt]
        exact List.getElem_mem hlt
      have HNO := hide hno
      clear hno
      by_cases hasc : zs[k]?.getD 0 < 128
      · generalize zs[k]?.getD 0 = c at *
        have HX : Hid (decide (0 ≤ Lib.indexByte [13, 10] c.toNat.toUInt8) = isCr c) := ixcr c hzb
        generalize hixe : Lib.indexByte [13, 10] c.toNat.toUInt8 = ix at *
        have HIX := hide hixe
        clear hixe
        go_wp2_with fail
        rw [run_callFunc_extern Tryd.func61 (by kernel_rfl) (by kernel_rfl) (by kernel_rfl) (e := Extern.BytealgIndexByte.indexByte) (by kernel_rfl), Lib.run_indexByteString, HIX.out]
        simp only [Result.andThen]
        rw [Oper.upon_value]
        by_cases hx : 0 ≤ ix
        · go_wp2_with fail
          go_ret
          exact ⟨k, rfl, by rw [HA.out (by rw [← HX.out]; simp [hx])]; simp, l1⟩
        · have HF : Hid (isCr c = false) := by show _ = _; rw [← HX.out]; simp; omega
          go_wp2_with fail
          go_roundw
          case rel => exact ⟨k + 1, hlt, by go_num, by rw [HTk.out, HNO.out, HF.out]; rfl, l1⟩
          case measure => simp [intOf]; omega
      · have hcv : ¬ cv = k := by omega
        have hs : (strOfNums (zs.drop k)).size = zs.length - k := by rw [strOfNums_size, List.length_drop]
        have hbd : Mt.By (zs.drop k) := fun z hz => hB z (List.mem_of_mem_drop hz)
        have hat : ∀ j, j < zs.length - k → (((strOfNums (zs.drop k)).get! j).toNat : Int) = zs[k + j]?.getD 0 := fun j hj => by
          have := strOf_at (zs.drop k) hbd j (by simp; omega)
          rw [List.getElem?_drop] at this
          exact this
        have HAT := hide hat
        have HRU := rune_any (strOfNums (zs.drop k)) bb (off + k) (cv - k) wr (HT.out.later l1) (fun j hj => by rw [hs] at hj; rw [Nat.add_assoc, HC.out (k + j) (by omega), ← hat j hj]) (by omega)
        have D := dec_hi (strOfNums (zs.drop k)) (by omega) (by have := hat 0 (by omega); simp only [Nat.add_zero] at this; omega)
        rw [hs] at HRU D
        generalize strOfNums (zs.drop k) = s at *
        clear hat hs hbd
        generalize Utf8.decode s 0 = dd at *
        obtain ⟨r, n⟩ := dd
        obtain ⟨d1, d2, d3, d4, d5, d6⟩ := D
        simp only at d1 d2 d3 d4 d5 d6 HRU
        have HM : Hid ((zs.take (k + n)).any isCr = false) := any_more zs k HNO.out n (by omega) (fun j hj => by rw [← HAT.out j (by omega)]; have := d5 j hj; omega)
        have HD6 := hide d6
        have HRU' := hide HRU
        clear d5 d6 HRU HAT HTk HA
        generalize zs[k]?.getD 0 = c at *
        go_wp2_with fail
        refine HRU'.out.mono ?_
        rintro e w2 ⟨rfl, b2⟩
        have l2 : Later w1 w2 := l1.trans b2
        clear HRU'
        have e13 : ((r : Int) == 13) = false := by simp; omega
        have e10 : ((r : Int) == 10) = false := by simp; omega
        obtain ⟨m, hm⟩ := (HT.out.later l2).1
        have HEN := hide (enc_ne r d3 d4)
        have hbq : (([13, 10] : List UInt8) == (Utf8.encode (r : Int)).toList) = false := by
          rw [beq_eq_false_iff_ne, ByteArray.toList_eq]
          intro h
          exact HEN.out (ByteArray.ext (Array.toList_inj.1 h.symm))
        have hcv2 : ∀ W : World, (convert 21 9 (.int .i32 (r : Int))).run Tryd.prog W = .ok (.string (Utf8.encode (r : Int))) W := fun W => by kernel_rfl
        generalize Utf8.encode (r : Int) = eb at *
        clear HEN
        by_cases hr : r = 65533
        · have er : ((r : Int) != 65533) = false := by simp [hr]
          clear hr
          go_wp2_with fail
          go_loopw [] (fun wx => ∃ pos : Nat, pos ≤ 2 ∧ wx = w2.iter ⟨#[13, 10]⟩ pos) (fun wx => 2 - wx.iterPos w2.heap.size)
          case atStart => exact ⟨0, by omega, rfl⟩
          case round =>
            obtain ⟨pos, hp, rfl⟩ := hrel
            have l3 : Later w1 (w2.iter ⟨#[13, 10]⟩ pos) := l2.trans (iter_later _ _ _)
            rcases (show pos = 0 ∨ pos = 1 ∨ pos = 2 by omega) with rfl | rfl | rfl
            · have hnx := run_next_any (P := Tryd.prog) w2 ⟨#[13, 10]⟩ 0 0 (by decide)
              rw [show Utf8.decode ⟨#[13, 10]⟩ 0 = (13, 1) from by decide] at hnx
              go_wp2_with fail
              go_roundw
              case rel => exact ⟨1, by omega, rfl⟩
              case measure => simp [World.iterPos_iter]
            · have hnx := run_next_any (P := Tryd.prog) w2 ⟨#[13, 10]⟩ 1 0 (by decide)
              rw [show Utf8.decode ⟨#[13, 10]⟩ 1 = (10, 1) from by decide] at hnx
              go_wp2_with fail
              go_roundw
              case rel => exact ⟨2, by omega, rfl⟩
              case measure => simp [World.iterPos_iter]
            · have hnx := run_next_end (P := Tryd.prog) w2 ⟨#[13, 10]⟩ 2 0 (by decide)
              go_wp2_with fail
              go_roundw
              case rel => exact ⟨k + n, by omega, by push_cast; rfl, HM.out, l3⟩
              case measure => simp [intOf]; omega
        · have er : ((r : Int) != 65533) = true := by simp; omega
          obtain ⟨h2n, hen0⟩ := HD6.out hr
          have hen := hide hen0
          clear hen0
          clear hr
          by_cases hn2 : n = 2
          · have en : ((2 : Int) == (n : Int)) = true := by simp; omega
            clear hn2
            go_wp2_with fail
            (go_roundw; (case rel => exact ⟨k + n, by omega, by push_cast; rfl, HM.out, by assumption⟩); (case measure => simp [intOf]; omega))
          · have en : ((2 : Int) == (n : Int)) = false := by simp; omega
            by_cases hmn : (n : Int) ≤ m
            · have HI := hide (index_run _ n m w2 hm hen.out (by omega) hmn)
              go_wp2_with fail
              rw [run_callFunc_extern Tryd.func67 (by kernel_rfl) (by kernel_rfl) (by kernel_rfl) (e := Extern.BytealgIndex.index) (by kernel_rfl), HI.out]
              simp only [Result.andThen]
              rw [Oper.upon_value]
              go_wp2_with fail
              (go_roundw; (case rel => exact ⟨k + n, by omega, by push_cast; rfl, HM.out, by assumption⟩); (case measure => simp [intOf]; omega))
            · go_wp2_with fail
              go_loopw [] (fun wx => ∃ pos : Nat, pos ≤ 2 ∧ wx = w2.iter ⟨#[13, 10]⟩ pos) (fun wx => 2 - wx.iterPos w2.heap.size)
              case atStart => exact ⟨0, by omega, rfl⟩
              case round =>
                obtain ⟨pos, hp, rfl⟩ := hrel
                have l3 : Later w1 (w2.iter ⟨#[13, 10]⟩ pos) := l2.trans (iter_later _ _ _)
                rcases (show pos = 0 ∨ pos = 1 ∨ pos = 2 by omega) with rfl | rfl | rfl
                · have hnx := run_next_any (P := Tryd.prog) w2 ⟨#[13, 10]⟩ 0 0 (by decide)
                  rw [show Utf8.decode ⟨#[13, 10]⟩ 0 = (13, 1) from by decide] at hnx
                  go_wp2_with fail
                  go_roundw
                  case rel => exact ⟨1, by omega, rfl⟩
                  case measure => simp [World.iterPos_iter]
                · have hnx := run_next_any (P := Tryd.prog) w2 ⟨#[13, 10]⟩ 1 0 (by decide)
                  rw [show Utf8.decode ⟨#[13, 10]⟩ 1 = (10, 1) from by decide] at hnx
                  go_wp2_with fail
                  go_roundw
                  case rel => exact ⟨2, by omega, rfl⟩
                  case measure => simp [World.iterPos_iter]
                · have hnx := run_next_end (P := Tryd.prog) w2 ⟨#[13, 10]⟩ 2 0 (by decide)
                  go_wp2_with fail
                  go_roundw
                  case rel => exact ⟨k + n, by omega, by push_cast; rfl, HM.out, l3⟩
                  case measure => simp [intOf]; omega
    · obtain rfl : k = zs.length := by omega
      rw [List.take_length] at hno
      go_wp2_with fail
      go_ret
      exact ⟨-1, rfl, by unfold crl; rw [hno]; rfl, l1⟩
end Go.Proofs.YtjkhblfgadnjfaaDoor

/- Package ftp: the readers over no line at all. -/
namespace Go.Proofs.YtjkhblfgadnjfaaDoor
open Go.RowKit Go.Shelf
set_option maxRecDepth 100000
set_option linter.unusedVariables false
set_option linter.unusedSimpArgs false

set_option maxHeartbeats 2000000 in
theorem take_nil (rb : Nat) (t : ByteArray) (r : Rr) (w : World) (h : RB w rb (.slice none 0 0) r) (h0 : r.at0 = 0) (ht : 0 < t.size ∧ t.size ≤ 1000) :
    Calls Tryd.prog 21 #[.pointer (some ⟨rb, 0, none⟩), .string t] w fun e w' => e = .returned (.bool false) ∧ Later w w' := by
  have HB := hide h
  have k0 := block_cell h
  unfold rrc at k0
  rw [h0] at k0
  have H0 := hide h0
  clear h0
  have g2 : (t.size : Int) ≤ 1000 := by omega
  have hf1 : (0 : Int) < (t.size : Int) := by omega
  clear h
  go_enter Tryd.func21, Tryd.ntmps21
  go_upto_region 2 with fail
  clear k0
  refine anyR_begin Later.pre Later.drew 23 rfl (by kernel_rfl) ?_
  intro Wd hWd
  have hac : ∀ v1, Later Wd v1 → ∀ j, v1.cell? ⟨rb, j, none⟩ = #[Value.slice none 0 0, .int .i64 (r.at0 : Int), .int .i64 r.kd, .int .i64 r.st, .int .i64 r.en, .int .u32 r.ad, .int .u16 r.pt][j]? := fun v1 hv => block_cell (RB.later HB.out (hWd.trans hv))
  refine anyR_val Later.pre 0 rfl (by kernel_rfl) (by kernel_rfl) (by kernel_rfl) (fun _ _ _ _ h => h) rfl ?_; apply Exists.intro; refine ⟨fun v1 hv1 => ?_, ?_⟩; (· (go_simp; rfl)); simp only [Act.put, List.setIfInBounds_toArray, List.set_cons_zero, List.set_cons_succ]
  refine anyR_val Later.pre 1 rfl (by kernel_rfl) (by kernel_rfl) (by kernel_rfl) (fun _ _ _ _ h => h) rfl ?_; apply Exists.intro; refine ⟨fun v1 hv1 => ?_, ?_⟩; (· (go_simp; rfl)); simp only [Act.put, List.setIfInBounds_toArray, List.set_cons_zero, List.set_cons_succ]
  refine anyR_val Later.pre 2 rfl (by kernel_rfl) (by kernel_rfl) (by kernel_rfl) (fun _ _ _ _ h => h) rfl ?_; apply Exists.intro; refine ⟨fun v1 hv1 => ?_, ?_⟩; (· (go_simp; rfl)); simp only [Act.put, List.setIfInBounds_toArray, List.set_cons_zero, List.set_cons_succ]
  refine anyR_val Later.pre 3 rfl (by kernel_rfl) (by kernel_rfl) (by kernel_rfl) (fun _ _ _ _ h => h) rfl ?_; apply Exists.intro; refine ⟨fun v1 hv1 => ?_, ?_⟩; (· (go_simp; rfl)); simp only [Act.put, List.setIfInBounds_toArray, List.set_cons_zero, List.set_cons_succ]
  refine anyR_val Later.pre 4 rfl (by kernel_rfl) (by kernel_rfl) (by kernel_rfl) (fun _ _ _ _ h => h) rfl ?_; apply Exists.intro; refine ⟨fun v1 hv1 => ?_, ?_⟩; (· (go_simp; rfl)); simp only [Act.put, List.setIfInBounds_toArray, List.set_cons_zero, List.set_cons_succ]
  refine anyR_val Later.pre 5 rfl (by kernel_rfl) (by kernel_rfl) (by kernel_rfl) (fun _ _ _ _ h => h) rfl ?_; apply Exists.intro; refine ⟨fun v1 hv1 => ?_, ?_⟩; (· (go_simp; rfl)); simp only [Act.put, List.setIfInBounds_toArray, List.set_cons_zero, List.set_cons_succ]
  refine anyR_val Later.pre 6 rfl (by kernel_rfl) (by kernel_rfl) (by kernel_rfl) (fun _ _ _ _ h => h) rfl ?_; apply Exists.intro; refine ⟨fun v1 hv1 => ?_, ?_⟩; (· (go_simp; rfl)); simp only [Act.put, List.setIfInBounds_toArray, List.set_cons_zero, List.set_cons_succ]
  refine anyR_val Later.pre 7 rfl (by kernel_rfl) (by kernel_rfl) (by kernel_rfl) (fun _ _ _ _ h => h) rfl ?_; apply Exists.intro; refine ⟨fun v1 hv1 => ?_, ?_⟩; (· (go_simp; rfl)); simp only [Act.put, List.setIfInBounds_toArray, List.set_cons_zero, List.set_cons_succ]
  refine anyR_skipG Later.pre 8 rfl (by kernel_rfl) (by kernel_rfl) (by kernel_rfl) (fun _ _ _ _ h => h) (by rfl) ?_; simp only [Act.put, List.setIfInBounds_toArray, List.set_cons_zero, List.set_cons_succ]
  refine anyR_skipG Later.pre 9 rfl (by kernel_rfl) (by kernel_rfl) (by kernel_rfl) (fun _ _ _ _ h => h) (by rfl) ?_; simp only [Act.put, List.setIfInBounds_toArray, List.set_cons_zero, List.set_cons_succ]
  refine anyR_skipG Later.pre 10 rfl (by kernel_rfl) (by kernel_rfl) (by kernel_rfl) (fun _ _ _ _ h => h) (by rfl) ?_; simp only [Act.put, List.setIfInBounds_toArray, List.set_cons_zero, List.set_cons_succ]
  refine anyR_skipG Later.pre 11 rfl (by kernel_rfl) (by kernel_rfl) (by kernel_rfl) (fun _ _ _ _ h => h) (by rfl) ?_; simp only [Act.put, List.setIfInBounds_toArray, List.set_cons_zero, List.set_cons_succ]
  refine anyR_skipG Later.pre 12 rfl (by kernel_rfl) (by kernel_rfl) (by kernel_rfl) (fun _ _ _ _ h => h) (by rfl) ?_; simp only [Act.put, List.setIfInBounds_toArray, List.set_cons_zero, List.set_cons_succ]
  refine anyR_skipG Later.pre 13 rfl (by kernel_rfl) (by kernel_rfl) (by kernel_rfl) (fun _ _ _ _ h => h) (by rfl) ?_; simp only [Act.put, List.setIfInBounds_toArray, List.set_cons_zero, List.set_cons_succ]
  refine anyR_skipG Later.pre 14 rfl (by kernel_rfl) (by kernel_rfl) (by kernel_rfl) (fun _ _ _ _ h => h) (by rfl) ?_; simp only [Act.put, List.setIfInBounds_toArray, List.set_cons_zero, List.set_cons_succ]
  refine anyR_skipG Later.pre 15 rfl (by kernel_rfl) (by kernel_rfl) (by kernel_rfl) (fun _ _ _ _ h => h) (by rfl) ?_; simp only [Act.put, List.setIfInBounds_toArray, List.set_cons_zero, List.set_cons_succ]
  refine anyR_skipG Later.pre 16 rfl (by kernel_rfl) (by kernel_rfl) (by kernel_rfl) (fun _ _ _ _ h => h) (by rfl) ?_; simp only [Act.put, List.setIfInBounds_toArray, List.set_cons_zero, List.set_cons_succ]
  refine anyR_skipG Later.pre 17 rfl (by kernel_rfl) (by kernel_rfl) (by kernel_rfl) (fun _ _ _ _ h => h) (by rfl) ?_; simp only [Act.put, List.setIfInBounds_toArray, List.set_cons_zero, List.set_cons_succ]
  refine anyR_skipG Later.pre 18 rfl (by kernel_rfl) (by kernel_rfl) (by kernel_rfl) (fun _ _ _ _ h => h) (by rfl) ?_; simp only [Act.put, List.setIfInBounds_toArray, List.set_cons_zero, List.set_cons_succ]
  refine anyR_skipG Later.pre 19 rfl (by kernel_rfl) (by kernel_rfl) (by kernel_rfl) (fun _ _ _ _ h => h) (by rfl) ?_; simp only [Act.put, List.setIfInBounds_toArray, List.set_cons_zero, List.set_cons_succ]
  refine anyR_skipG Later.pre 20 rfl (by kernel_rfl) (by kernel_rfl) (by kernel_rfl) (fun _ _ _ _ h => h) (by rfl) ?_; simp only [Act.put, List.setIfInBounds_toArray, List.set_cons_zero, List.set_cons_succ]
  refine anyR_skipG Later.pre 21 rfl (by kernel_rfl) (by kernel_rfl) (by kernel_rfl) (fun _ _ _ _ h => h) (by rfl) ?_; simp only [Act.put, List.setIfInBounds_toArray, List.set_cons_zero, List.set_cons_succ]
  refine anyR_val Later.pre 22 rfl (by kernel_rfl) (by kernel_rfl) (by kernel_rfl) (fun _ _ _ _ h => h) rfl ?_; apply Exists.intro; refine ⟨fun v1 hv1 => ?_, ?_⟩; (· (go_simp; rfl)); simp only [Act.put, List.setIfInBounds_toArray, List.set_cons_zero, List.set_cons_succ]
  refine anyR_done (by kernel_rfl) (fun VD hVD => ?_)
  go_wp2_with fail
  go_ret
  exact ⟨rfl, hWd.trans hVD⟩

set_option maxHeartbeats 2000000 in
theorem kind_nil (rb : Nat) (back : Bool) (r : Rr) (w : World) (h : RB w rb (.slice none 0 0) r) (h0 : r.at0 = 0) :
    Calls Tryd.prog 16 #[.pointer (some ⟨rb, 0, none⟩), .bool back] w fun e w' => e = .returned (.int .i64 0) ∧ Later w w' := by
  have HTK := hide (fun (t : ByteArray) (ht : 0 < t.size ∧ t.size ≤ 1000) (W : World) (l : Later w W) => take_nil rb t r W (h.later l) h0 ht)
  clear h h0
  cases back with
  | false =>
    go_enter Tryd.func16, Tryd.ntmps16
    go_wp2_with fail
    refine (HTK.out ⟨#[80, 79, 82, 84, 32]⟩ (by decide) w (Below.refl _ _)).mono ?_
    rintro e w1 ⟨rfl, l1⟩
    go_wp2_with fail
    refine (HTK.out ⟨#[69, 80, 82, 84, 32]⟩ (by decide) w1 l1).mono ?_
    rintro e w2 ⟨rfl, l2⟩
    go_wp2_with fail
    go_ret
    exact ⟨rfl, l1.trans l2⟩
  | true =>
    go_enter Tryd.func16, Tryd.ntmps16
    go_wp2_with fail
    refine (HTK.out ⟨#[50, 50, 55, 32]⟩ (by decide) w (Below.refl _ _)).mono ?_
    rintro e w1 ⟨rfl, l1⟩
    go_wp2_with fail
    refine (HTK.out ⟨#[50, 50, 57, 32]⟩ (by decide) w1 l1).mono ?_
    rintro e w2 ⟨rfl, l2⟩
    go_wp2_with fail
    go_ret
    exact ⟨rfl, l1.trans l2⟩
end Go.Proofs.YtjkhblfgadnjfaaDoor

/- Package slices: Grow of nothing, Concat of slices of bytes. -/
namespace Go.Proofs.YtjkhblfgadnjfaaDoor
open Go.RowKit Go.Shelf
set_option maxRecDepth 100000
set_option linter.unusedVariables false
set_option linter.unusedSimpArgs false

set_option maxHeartbeats 2000000 in
theorem grow_pos (n : Nat) (w : World) (h0 : 0 < n) (hn : n ≤ 140737488355328) :
    Calls Tryd.prog 45 #[.slice none 0 0, .int .i64 n] w fun e w' => ∃ v, e = .returned v ∧ w'.ownsRow w.heap.size 5 1 v 0 [] ∧ Below w.heap.size w w' := by
  obtain ⟨i0, hi, hz0, hz1, hz2⟩ := info_parts info_u8
  have hcap := grownCap_le_maxLen w n 0 5 (by unfold maxLen; omega)
  have hcap0 := grownCap_ge w n 0 5
  have hr := Lib.run_append_nil_zeros (P := Tryd.prog) w 22 3 22 5 i0 (.int .u8 0) .i64 .i64 Tryd.underlying22 Tryd.underlying3 hi hz0 n h0 (by omega) (by omega) (by rw [hz2]; omega)
  have hsz : (Builtin.zeroCells (Value.int .u8 0).cells n ++ Builtin.zeroCells (Value.int .u8 0).cells (grownCap w n 0 5 - n)).size = grownCap w n 0 5 * 1 := by
    simp [Builtin.zeroCells, Value.cells]
    omega
  have ho := World.ownsRow_made (base := w.heap.size) (e := 5) (size := 1) w.drew (Builtin.zeroCells (Value.int .u8 0).cells n ++ Builtin.zeroCells (Value.int .u8 0).cells (grownCap w n 0 5 - n)) (grownCap w n 0 5) (Nat.le_refl _) hcap hsz
  have hb : Below w.heap.size w (w.drew.alloc (.cells (Builtin.zeroCells (Value.int .u8 0).cells n ++ Builtin.zeroCells (Value.int .u8 0).cells (grownCap w n 0 5 - n)) 5)) := (Below.refl _ _).drew.alloc (Nat.le_refl _) _
  have HO := hide ho
  have HB := hide hb
  clear ho hb hsz
  generalize w.drew.alloc (.cells (Builtin.zeroCells (Value.int .u8 0).cells n ++ Builtin.zeroCells (Value.int .u8 0).cells (grownCap w n 0 5 - n)) 5) = w1 at *
  generalize grownCap w n 0 5 = cp at *
  have hcp : cp ≤ 9223372036854775807 := hcap
  clear hcap
  go_enter Tryd.func45, Tryd.ntmps45
  go_wp2_with (at_builtin; refine Lib.wpList_append_run _ rfl (.tmp 20) (.tmp 21) _ _ rfl (.slice none 0 0) (.int .i64 n) rfl rfl _ _ hr ?_; clear hr)
  go_ret
  exact ⟨_, rfl, HO.out, HB.out⟩

set_option maxHeartbeats 2000000 in
theorem grow_any (n : Nat) (w : World) (hn : n ≤ 140737488355328) :
    Calls Tryd.prog 45 #[.slice none 0 0, .int .i64 n] w fun e w' => ∃ v, e = .returned v ∧ w'.ownsRow w.heap.size 5 1 v 0 [] ∧ Below w.heap.size w w' := by
  by_cases h0 : 0 < n
  · exact grow_pos n w h0 hn
  obtain rfl : n = 0 := by omega
  go_enter Tryd.func45, Tryd.ntmps45
  go_wp2_with fail
  go_ret
  exact ⟨_, rfl, World.ownsRow_nil _ _ _ _, Below.refl _ _⟩

set_option maxHeartbeats 2000000 in
/-- Slices put one behind the other. -/
theorem concat_any (pb cap : Nat) (svs : List Value) (zss : List (List Int)) (w : World) (hn : svs.length = zss.length) (hcap : svs.length ≤ cap) (hk : svs.length ≤ 1000) (hl : zss.flatten.length ≤ 140737488355328)
    (hc : ∀ j, j < svs.length → w.cell? ⟨pb, j, none⟩ = some (svs[j]?.getD undef)) (hR : ∀ j, j < svs.length → Rd w.heap.size w (svs[j]?.getD undef) (zss[j]?.getD [])) :
    Calls Tryd.prog 31 #[.slice (some ⟨pb, 0, none⟩) svs.length cap] w fun e w' => ∃ v, e = .returned v ∧ w'.ownsRow w.heap.size 5 1 v zss.flatten.length (zss.flatten.map (Value.int .u8)) ∧ Below w.heap.size w w' := by
  obtain ⟨i0, hi, hz0, hz1, hz2⟩ := info_parts info_u8
  have HN := hide hn
  clear hn
  have HFL := hide (fun k (hlt : k < svs.length) => show (zss.take (k + 1)).flatten = (zss.take k).flatten ++ (zss[k]?.getD []) ∧ (zss.take (k + 1)).flatten.length ≤ zss.flatten.length from by
    have hkz : k < zss.length := by have := HN.out; omega
    have e1 : zss.take (k + 1) = zss.take k ++ [zss[k]?.getD []] := by
      rw [List.take_succ_eq_append_getElem hkz, List.getElem?_eq_getElem hkz]
      rfl
    refine ⟨by rw [e1, List.flatten_append, List.flatten_cons, List.flatten_nil, List.append_nil], ?_⟩
    conv => rhs; rw [← List.take_append_drop (k + 1) zss, List.flatten_append]
    simp)
  go_enter Tryd.func31, Tryd.ntmps31
  go_wp2
  go_loopw [3, 11] (fun v i wr => ∃ k : Nat, k ≤ svs.length ∧ i = .int .i64 (k : Int) ∧ v = .int .i64 ((zss.take k).flatten.length : Nat) ∧ wr = w)
    (fun _ i _ => svs.length - (intOf i).toNat)
  case atStart => exact ⟨0, by omega, rfl, rfl, rfl⟩
  case round =>
    obtain ⟨k, hk1, rfl, rfl, rfl⟩ := hrel
    by_cases hlt : k < svs.length
    · have hcx := hc k hlt
      have hRx := hR k hlt
      obtain ⟨hfl, hle⟩ := HFL.out k hlt
      have hlen : (zss.take k).flatten.length + (zss[k]?.getD []).length ≤ 140737488355328 := by rw [← List.length_append, ← hfl]; omega
      have HF : Hid ((zss.take (k + 1)).flatten.length = (zss.take k).flatten.length + (zss[k]?.getD []).length) := by show _ = _; rw [hfl, List.length_append]
      clear hfl hle hc hR
      generalize svs[k]?.getD undef = sv at *
      generalize zss[k]?.getD [] = zs at *
      generalize (zss.take k).flatten.length = sz at *
      obtain ⟨a, cp, rfl, hl1, hm1⟩ := hRx.slice
      have hlt' : (k : Int) < svs.length := by omega
      go_wp2_with fail
      go_roundw
      case rel => exact ⟨k + 1, by omega, by go_num, by rw [HF.out]; go_num, trivial⟩
      case measure => simp [intOf]; omega
    · obtain rfl : k = svs.length := by omega
      obtain ⟨w0, hw0⟩ : ∃ x, x = wr := ⟨_, rfl⟩
      subst hw0
      rw [HN.out, List.take_length]
      rw [HN.out] at hc hR
      have hgr := hide (grow_any zss.flatten.length w0 hl)
      have HL := hide hl
      clear hl
      generalize hnn : zss.flatten.length = nn at hgr HL ⊢
      have HQ := hide hnn
      clear hnn
      go_upto_region 9 with fail
      go_wp2_with fail
      refine hgr.out.mono ?_
      rintro e w1 ⟨nv, rfl, hown1, hb1⟩
      go_wp2_with fail
      go_loopw [6, 27] (fun v i wq => ∃ k : Nat, k ≤ zss.length ∧ i = .int .i64 (k : Int) ∧ wq.ownsRow w0.heap.size 5 1 v (zss.take k).flatten.length ((zss.take k).flatten.map (Value.int .u8)) ∧ Below w0.heap.size w0 wq)
        (fun _ i _ => zss.length - (intOf i).toNat)
      case atStart => exact ⟨0, by omega, rfl, hown1, hb1⟩
      case round =>
        obtain ⟨k, hk1, rfl, hown, hnx⟩ := hrel
        by_cases hlt : k < zss.length
        · have hck := hc k hlt
          have hpb : pb < w0.heap.size := World.block_lt_of_cell? w0 ⟨pb, k, none⟩ hck
          have hcx : wr.cell? ⟨pb, k, none⟩ = some (svs[k]?.getD undef) := (hnx.cell (p := ⟨pb, k, none⟩) hpb).trans hck
          have hRx : Rd w0.heap.size wr (svs[k]?.getD undef) (zss[k]?.getD []) := (hR k hlt).below hnx
          obtain ⟨hfl, hle⟩ := HFL.out k (by rw [HN.out]; exact hlt)
          have HF := hide hfl
          have hlen : (zss.take k).flatten.length + (zss[k]?.getD []).length ≤ 140737488355328 := by rw [← List.length_append, ← hfl]; exact Nat.le_trans hle (by rw [HQ.out]; exact HL.out)
          clear hfl hle hc hR hck
          generalize svs[k]?.getD undef = sv at *
          generalize zss[k]?.getD [] = zs at *
          obtain ⟨a, cp, rfl, hl1, hm1⟩ := hRx.slice
          have hlt' : (k : Int) < zss.length := by omega
          have hk' : zss.length ≤ 1000 := by rw [← HN.out]; exact hk
          have HL1 := hide (show k + 1 ≤ zss.length from hlt)
          go_wp2_with (at_builtin; refine wpList_app _ rfl (.tmp 31) (.tmp 32) 22 rfl w0.heap.size 5 i0 Tryd.underlying22 hi hz0 hz1 hz2 _ _ rfl hown w0.heap.size _ zs rfl hRx hlen hnx.size ?_; intro v1 w1 hown1 hg1; have hb1 := below_app hnx hown hg1 (Nat.le_refl _) hnx.size; clear hg1 hown)
          go_roundw
          case rel => exact ⟨k + 1, HL1.out, by go_num, by rw [HF.out]; exact hown1, hb1⟩
          case measure => have := HL1.out; simp [intOf]; omega
        · obtain rfl : k = zss.length := by omega
          rw [List.take_length] at hown
          go_wp2_with fail
          go_ret
          exact ⟨_, rfl, hown, hnx⟩
end Go.Proofs.YtjkhblfgadnjfaaDoor

/- Package ftp: Replace. -/
namespace Go.Proofs.YtjkhblfgadnjfaaDoor
open Go.RowKit Go.Shelf
set_option maxRecDepth 100000
set_option linter.unusedVariables false
set_option linter.unusedSimpArgs false

/-- A line with other bytes in place of some. -/
def rpl (st en : Int) (zs ts : List Int) : List Int := if st < 0 ∨ st > en ∨ en > zs.length then zs else zs.take st.toNat ++ (ts ++ zs.drop en.toNat)
theorem later_allocR (w : World) (o : Obj) : Later w (w.alloc o) := (Below.refl _ _).alloc (Nat.le_refl _) _

set_option maxHeartbeats 4000000 in
theorem replace_any (k st en ad po : Int) (sv tv : Value) (zs ts : List Int) (w : World) (hI : Rd w.heap.size w sv zs) (hJ : Rd w.heap.size w tv ts) (hl : zs.length + ts.length ≤ 140737488355328)
    (hs : -9223372036854775808 ≤ st ∧ st ≤ 9223372036854775807) (he : -9223372036854775808 ≤ en ∧ en ≤ 9223372036854775807) :
    Calls Tryd.prog 12 #[sv, .agg #[.int .i64 k, .int .i64 st, .int .i64 en, .int .u32 ad, .int .u16 po], tv] w fun e w' => ∃ x c, e = .returned (.slice x (rpl st en zs ts).length c) ∧ Ow w.heap.size w' (.slice x (rpl st en zs ts).length c) (rpl st en zs ts) ∧ Below w.heap.size w w' := by
  obtain ⟨av, cv, rfl, hlv, hmv⟩ := hI.slice
  obtain ⟨at', ct, rfl, hlt, hmt⟩ := hJ.slice
  have l1 := later_allocR w (.cells #[.int .i64 k, .int .i64 st, .int .i64 en, .int .u32 ad, .int .u16 po] 27)
  have F1 := hide (heap_alloc_new w (.cells #[.int .i64 k, .int .i64 st, .int .i64 en, .int .u32 ad, .int .u16 po] 27))
  go_enter Tryd.func12, Tryd.ntmps12
  go_upto_region 1 with fail
  generalize w.alloc (.cells #[.int .i64 k, .int .i64 st, .int .i64 en, .int .u32 ad, .int .u16 po] 27) = w1 at *
  have hI1 := hI.later l1
  have hJ1 := hJ.later l1
  have kF := block_cell F1.out
  by_cases hbad : st < 0 ∨ st > en ∨ en > zs.length
  · have HR : Hid (rpl st en zs ts = zs) := by show _ = _; unfold rpl; rw [if_pos hbad]
    have HC := hide (cloneb_any _ zs w1 (by omega) hI1)
    have fin : ∀ (e : Ending) (w' : World), (∃ a8 c8, e = .returned (.slice a8 zs.length c8) ∧ Ow w1.heap.size w' (.slice a8 zs.length c8) zs ∧ Below w1.heap.size w1 w') → ∃ x c, e = .returned (.slice x (rpl st en zs ts).length c) ∧ Ow w.heap.size w' (.slice x (rpl st en zs ts).length c) (rpl st en zs ts) ∧ Below w.heap.size w w' := by
      rintro e w' ⟨a8, c8, rfl, hO, hb⟩
      rw [HR.out]
      exact ⟨a8, c8, rfl, hO.mono l1.size, l1.trans hb⟩
    by_cases c1 : st < 0
    · have t1 : decide (st < 0) = true := by simp [c1]
      go_wp2_with fail
      refine HC.out.mono ?_
      rintro e w2 ⟨a8, c8, rfl, hO, hb⟩
      go_wp2_with fail
      go_ret
      exact fin _ _ ⟨a8, c8, rfl, hO, hb⟩
    have t1 : decide (st < 0) = false := by simp [c1]
    by_cases c2 : st > en
    · have t2 : decide (en < st) = true := by simp [c2]
      go_wp2_with fail
      refine HC.out.mono ?_
      rintro e w2 ⟨a8, c8, rfl, hO, hb⟩
      go_wp2_with fail
      go_ret
      exact fin _ _ ⟨a8, c8, rfl, hO, hb⟩
    have t2 : decide (en < st) = false := by simp [c2]
    have c3 : (zs.length : Int) < en := by omega
    have t3 : decide ((zs.length : Int) < en) = true := by simp [c3]
    go_wp2_with fail
    refine HC.out.mono ?_
    rintro e w2 ⟨a8, c8, rfl, hO, hb⟩
    go_wp2_with fail
    go_ret
    exact fin _ _ ⟨a8, c8, rfl, hO, hb⟩
  · have HR : Hid (rpl st en zs ts = zs.take st.toNat ++ (ts ++ zs.drop en.toNat)) := by show _ = _; unfold rpl; rw [if_neg hbad]
    obtain ⟨n, rfl⟩ : ∃ n : Nat, st = (n : Int) := ⟨st.toNat, by omega⟩
    obtain ⟨m, rfl⟩ : ∃ m : Nat, en = (m : Int) := ⟨en.toNat, by omega⟩
    have hnm : n ≤ m := by omega
    have hmz : m ≤ zs.length := by omega
    rw [Int.toNat_natCast, Int.toNat_natCast] at HR
    have t1 : decide ((n : Int) < 0) = false := by simp
    have t2 : decide ((m : Int) < n) = false := by simp; omega
    have t3 : decide ((zs.length : Int) < m) = false := by simp; omega
    have hrl : (rpl n m zs ts).length ≤ 140737488355328 := by rw [HR.out, List.length_append, List.length_append, List.length_take, List.length_drop]; omega
    generalize hrz : rpl n m zs ts = rz at *
    have ER := hide hrz
    clear hrz
    clear hbad hs he
    go_upto_region 3 with fail
    clear t1 t2 t3 kF
    refine anyT_begin (R := Later) 12 rfl (by kernel_rfl) ?_
    have hdr : Later w1 w1.drew := Later.drew w1
    have F2 := hide ((hdr.block w.heap.size (Array.getElem?_eq_some_iff.1 F1.out).1).trans F1.out)
    have hI2 := hI1.later hdr
    have hJ2 := hJ1.later hdr
    have L2 := l1.trans hdr
    generalize w1.drew = w2 at *
    clear hI1 hJ1 hdr F1 l1
    have qF : ∀ v1, Later w2 v1 → ∀ i, v1.cell? ⟨w.heap.size, i, none⟩ = #[Value.int .i64 k, .int .i64 n, .int .i64 m, .int .u32 ad, .int .u16 po][i]? := fun v1 h => block_cell ((h.block w.heap.size (Array.getElem?_eq_some_iff.1 F2.out).1).trans F2.out)
    have hnc : n ≤ cv := by omega
    refine anyT_val Later.pre 0 rfl (by kernel_rfl) (by kernel_rfl) (by kernel_rfl) (fun _ _ _ _ h => h) rfl ?_; apply Exists.intro; refine ⟨fun v1 hv1 => ?_, ?_⟩; (· (go_simp; rfl)); simp only [Act.put, List.setIfInBounds_toArray, List.set_cons_zero, List.set_cons_succ]
    refine anyT_val Later.pre 1 rfl (by kernel_rfl) (by kernel_rfl) (by kernel_rfl) (fun _ _ _ _ h => h) rfl ?_; apply Exists.intro; refine ⟨fun v1 hv1 => ?_, ?_⟩; (· (go_simp; rfl)); simp only [Act.put, List.setIfInBounds_toArray, List.set_cons_zero, List.set_cons_succ]
    refine anyT_val Later.pre 2 rfl (by kernel_rfl) (by kernel_rfl) (by kernel_rfl) (fun _ _ _ _ h => h) rfl ?_; apply Exists.intro; refine ⟨fun v1 hv1 => ?_, ?_⟩; (· (go_simp; rfl)); simp only [Act.put, List.setIfInBounds_toArray, List.set_cons_zero, List.set_cons_succ]
    refine anyT_val Later.pre 3 rfl (by kernel_rfl) (by kernel_rfl) (by kernel_rfl) (fun _ _ _ _ h => h) rfl ?_; apply Exists.intro; refine ⟨fun v1 hv1 => ?_, ?_⟩; (· (go_simp; rfl)); simp only [Act.put, List.setIfInBounds_toArray, List.set_cons_zero, List.set_cons_succ]
    refine anyT_val Later.pre 4 rfl (by kernel_rfl) (by kernel_rfl) (by kernel_rfl) (fun _ _ _ _ h => h) rfl ?_; apply Exists.intro; refine ⟨fun v1 hv1 => ?_, ?_⟩; (· (go_simp; rfl)); simp only [Act.put, List.setIfInBounds_toArray, List.set_cons_zero, List.set_cons_succ]
    refine anyT_val Later.pre 5 rfl (by kernel_rfl) (by kernel_rfl) (by kernel_rfl) (fun _ _ _ _ h => h) rfl ?_; apply Exists.intro; refine ⟨fun v1 hv1 => ?_, ?_⟩; (· (go_simp; rfl)); simp only [Act.put, List.setIfInBounds_toArray, List.set_cons_zero, List.set_cons_succ]
    refine anyT_val Later.pre 6 rfl (by kernel_rfl) (by kernel_rfl) (by kernel_rfl) (fun _ _ _ _ h => h) rfl ?_; apply Exists.intro; refine ⟨fun v1 hv1 => ?_, ?_⟩; (· (go_simp; rfl)); simp only [Act.put, List.setIfInBounds_toArray, List.set_cons_zero, List.set_cons_succ]
    refine anyT_val Later.pre 7 rfl (by kernel_rfl) (by kernel_rfl) (by kernel_rfl) (fun _ _ _ _ h => h) rfl ?_; apply Exists.intro; refine ⟨fun v1 hv1 => ?_, ?_⟩; (· (go_simp; rfl)); simp only [Act.put, List.setIfInBounds_toArray, List.set_cons_zero, List.set_cons_succ]
    refine anyT_val Later.pre 8 rfl (by kernel_rfl) (by kernel_rfl) (by kernel_rfl) (fun _ _ _ _ h => h) rfl ?_; apply Exists.intro; refine ⟨fun v1 hv1 => ?_, ?_⟩; (· (go_simp; rfl)); simp only [Act.put, List.setIfInBounds_toArray, List.set_cons_zero, List.set_cons_succ]
    clear qF
    have R9 := hide (show Rd w2.heap.size w2 (.slice (if cv = m then av else Option.map (fun x => x.add m) av) (zs.length - m) (cv - m)) (zs.drop m) from by simpa [sliced] using Rd.drop m hmz hI2)
    have R8 := hide (hI2.take n (by omega))
    have R7 := hide hJ2
    generalize (if cv = m then av else Option.map (fun x => x.add m) av) = a9 at *
    generalize zs.length - m = n9 at *
    generalize cv - m = c9 at *
    refine anyT_one 9 rfl (by kernel_rfl) rfl ?_
    unfold Oper.wp
    go_simp
    have l3 := later_allocR w2 (.cells #[.slice av n cv, .slice at' ts.length ct, .slice a9 n9 c9] 22)
    have B3 := heap_alloc_new w2 (.cells #[.slice av n cv, .slice at' ts.length ct, .slice a9 n9 c9] 22)
    refine ⟨l3, ?_⟩
    generalize w2.alloc (.cells #[.slice av n cv, .slice at' ts.length ct, .slice a9 n9 c9] 22) = w3 at *
    have C3 := block_cell B3
    have hfl : ([zs.take n, ts, zs.drop m] : List (List Int)).flatten = rz := by rw [HR.out]; simp
    have H4 := concat_any w2.heap.size 3 [.slice av n cv, .slice at' ts.length ct, .slice a9 n9 c9] [zs.take n, ts, zs.drop m] w3 rfl (by simp) (by simp) (by rw [hfl]; exact hrl)
      (fun j hj => by
        have hj3 : j < 3 := hj
        have : j = 0 ∨ j = 1 ∨ j = 2 := by omega
        rcases this with rfl | rfl | rfl <;> exact C3 _)
      (fun j hj => by
        have hj3 : j < 3 := hj
        have : j = 0 ∨ j = 1 ∨ j = 2 := by omega
        rcases this with rfl | rfl | rfl
        · exact R8.out.later l3
        · exact R7.out.later l3
        · exact R9.out.later l3)
    rw [hfl] at H4
    have HL4 := hide H4
    clear H4 C3 B3 hfl
    generalize w2.heap.size = gb at *
    refine anyT_one 10 rfl (by kernel_rfl) rfl ?_
    refine wp_enter 31 #[.slice (some ⟨gb, 0, none⟩) 3 3] (by go_simp) (HL4.out.mono ?_)
    rintro e w4 ⟨v4, rfl, hown, b4⟩
    have l4 : Later w3 w4 := b4
    have O4 := hide (Ow.of_row hown)
    clear hown
    refine ⟨l4, ?_⟩
    simp only [Act.put, List.setIfInBounds_toArray, List.set_cons_zero, List.set_cons_succ]
    refine anyT_val Later.pre 11 rfl (by kernel_rfl) (by kernel_rfl) (by kernel_rfl) (fun _ _ _ _ h => h) rfl ?_; apply Exists.intro; refine ⟨fun v1 hv1 => ?_, ?_⟩; (· (go_simp; rfl)); simp only [Act.put, List.setIfInBounds_toArray, List.set_cons_zero, List.set_cons_succ]
    refine anyT_done (by kernel_rfl) ?_
    obtain ⟨x, c, rfl, _, _⟩ := O4.out.slice
    go_wp2_with fail
    go_ret
    have L3 := L2.trans l3
    rw [ER.out]
    exact ⟨x, c, rfl, O4.out.mono L3.size, L3.trans l4⟩
end Go.Proofs.YtjkhblfgadnjfaaDoor

/- Package ftp: Find of what is no line. -/
namespace Go.Proofs.YtjkhblfgadnjfaaDoor
open Go.RowKit Go.Shelf
set_option maxRecDepth 100000
set_option linter.unusedVariables false
set_option linter.unusedSimpArgs false

/-- What holds where Find gives up: it knows where its answer stands, which is all 0. -/
def GU (rb : Nat) (w : World) (a' : Act) (W : World) : Prop := ∃ u0 u1 u2 u3 u5 u6 u7 u8 u9 u10 u11 u12 u13 u14 u15 u16 u17 u18 u19 u20 u21 u22 u23 u24 u25 u26 u27 u28 u29 u30 u31 u32 u33 u34 u35 u36 u37 u38 u39 u40 u41 u42 u43 u44 u45 u46 u47 u48 u49 u50 u51 u52 u53 u54 u55 u56 u57 u58 u59 u60 u61 u62 u63 u64 u65 u66 u67 u68 u69 u70 u71 : Value, a' = { tmps := #[u0, u1, u2, u3, .pointer (some ⟨rb, 0, none⟩), u5, u6, u7, u8, u9, u10, u11, u12, u13, u14, u15, u16, u17, u18, u19, u20, u21, u22, u23, u24, u25, u26, u27, u28, u29, u30, u31, u32, u33, u34, u35, u36, u37, u38, u39, u40, u41, u42, u43, u44, u45, u46, u47, u48, u49, u50, u51, u52, u53, u54, u55, u56, u57, u58, u59, u60, u61, u62, u63, u64, u65, u66, u67, u68, u69, u70, u71], defers := [] } ∧ W.heap[rb]? = some (.cells #[.int .i64 0, .int .i64 0, .int .i64 0, .int .u32 0, .int .u16 0] 27 (0, 0)) ∧ Below w.heap.size w W ∧ w.heap.size ≤ rb

set_option maxHeartbeats 4000000 in
theorem find_nil (sv : Value) (back : Bool) (w : World) (HL : ∀ W, Later w W → Calls Tryd.prog 15 #[sv] W fun e w' => e = .returned (.slice none 0 0) ∧ Later W w') :
    Calls Tryd.prog 9 #[sv, .bool back] w fun e w' => e = .returned (.tuple #[.agg #[.int .i64 0, .int .i64 0, .int .i64 0, .int .u32 0, .int .u16 0], .bool false]) ∧ Below w.heap.size w w' := by
  have HL' := hide HL
  clear HL
  go_enter Tryd.func9, Tryd.ntmps9
  go_wp2
  refine wp_scope_jumps 0 (GU w.heap.size w) (fun _ _ => 0) rfl ?_ ?_
  · have l1 : Later w (w.alloc (.cells #[.int .i64 0, .int .i64 0, .int .i64 0, .int .u32 0, .int .u16 0] 27)) := later_allocR _ _
    have R1 := hide (heap_alloc_new w (.cells #[.int .i64 0, .int .i64 0, .int .i64 0, .int .u32 0, .int .u16 0] 27))
    go_wp2_with fail
    refine (HL'.out _ l1).mono ?_
    rintro e w2 ⟨rfl, l2⟩
    have R2 := hide ((l2.block w.heap.size (Array.getElem?_eq_some_iff.1 R1.out).1).trans R1.out)
    have B3 := hide (show RB (w2.alloc (.cells (rrc (.slice none 0 0) ⟨0, 0, 0, 0, 0, 0⟩) 48)) w2.heap.size (.slice none 0 0) ⟨0, 0, 0, 0, 0, 0⟩ from heap_alloc_new w2 _)
    have l3 := later_allocR w2 (.cells (rrc (.slice none 0 0) ⟨0, 0, 0, 0, 0, 0⟩) 48)
    have L2 := l1.trans l2
    have hlt : w.heap.size < w2.heap.size := Nat.lt_of_lt_of_le (Array.getElem?_eq_some_iff.1 R1.out).1 l2.size
    go_upto_region 2 with fail
    rw [show (w2.alloc (.cells (rrc (.slice none 0 0) ⟨0, 0, 0, 0, 0, 0⟩) 48)) = w2.alloc (.cells #[.slice none 0 0, .int .i64 0, .int .i64 0, .int .i64 0, .int .i64 0, .int .u32 0, .int .u16 0] 48) from rfl] at B3 l3
    generalize w2.alloc _ = w3 at *
    generalize w2.heap.size = rb at *
    have HK := hide (kind_nil rb back _ w3 B3.out rfl)
    go_wp2_with fail
    refine HK.out.mono ?_
    rintro e w4 ⟨rfl, l4⟩
    have B4 := hide (B3.out.later l4)
    have R4 := hide (((l3.trans l4).block w.heap.size (Array.getElem?_eq_some_iff.1 R2.out).1).trans R2.out)
    have L4 : Below w.heap.size w w4 := L2.trans (l3.trans l4)
    have hlt4 : rb < w4.heap.size := (Array.getElem?_eq_some_iff.1 B4.out).1
    have kB := block_cell B4.out
    have fB := block_frozen B4.out
    unfold rrc at kB
    have B5 := hide (heap_set1 B4.out 2 (.int .i64 0))
    have b5 : But (fun q => q = rb) w4 (w4.setCell ⟨rb, 2, none⟩ (.int .i64 0)) := But.setCell (E := fun q => q = rb) (But.refl _ _) (p := ⟨rb, 2, none⟩) rfl _
    go_upto_region 3 with fail
    generalize w4.setCell ⟨rb, 2, none⟩ _ = w5 at *
    clear kB fB
    have B5' : w5.heap[rb]? = some (.cells #[.slice none 0 0, .int .i64 0, .int .i64 0, .int .i64 0, .int .i64 0, .int .u32 0, .int .u16 0] 48 (0, 0)) := by have := B5.out; simp [rrc] at this; exact this
    have kB := block_cell B5'
    have R5 := hide ((b5.block w.heap.size (by omega) (by omega)).trans R4.out)
    have L5 : Below w.heap.size w w5 := L4.trans (b5.below L4.size (fun k hk e => by omega))
    go_wp2_with fail
    go_step3
    exact ⟨rfl, _, _, _, _, _, _, _, _, _, _, _, _, _, _, _, _, _, _, _, _, _, _, _, _, _, _, _, _, _, _, _, _, _, _, _, _, _, _, _, _, _, _, _, _, _, _, _, _, _, _, _, _, _, _, _, _, _, _, _, _, _, _, _, _, _, _, _, _, _, _, _, rfl, R5.out, L5, Nat.le_refl _⟩
  · rintro a' W ⟨u0, u1, u2, u3, u5, u6, u7, u8, u9, u10, u11, u12, u13, u14, u15, u16, u17, u18, u19, u20, u21, u22, u23, u24, u25, u26, u27, u28, u29, u30, u31, u32, u33, u34, u35, u36, u37, u38, u39, u40, u41, u42, u43, u44, u45, u46, u47, u48, u49, u50, u51, u52, u53, u54, u55, u56, u57, u58, u59, u60, u61, u62, u63, u64, u65, u66, u67, u68, u69, u70, u71, rfl, hR, hb, hle⟩
    have kR := block_cell hR
    have fR := block_frozen hR
    have HR := hide hR
    clear hR
    go_wp2
    simp only [Exit.jump]
    generalize hV : (((((W.setCell ⟨w.heap.size, 0, none⟩ _).setCell ⟨w.heap.size, 1, none⟩ _).setCell ⟨w.heap.size, 2, none⟩ _).setCell ⟨w.heap.size, 3, none⟩ _).setCell ⟨w.heap.size, 4, none⟩ _) = V8
    have hV9 : V8 = putRow W w.heap.size 0 [.int .i64 0, .int .i64 0, .int .i64 0, .int .u32 0, .int .u16 0] := hV.symm
    have hb8 : But (fun b => b = w.heap.size) W V8 := by rw [hV9]; exact putRow_but (E := fun b => b = w.heap.size) (n := w.heap.size) rfl _ _ _ _ (But.refl _ _)
    have p8 := putRow_all [.int .i64 0, .int .i64 0, .int .i64 0, .int .u32 0, .int .u16 0] HR.out rfl
    rw [← hV9] at p8
    clear hV hV9 kR fR
    have P8 := block_cell p8
    have hw8 : Below w.heap.size w V8 := hb.trans (hb8.below hb.size (fun k h e => by omega))
    exact bodyPost_ret (v := .tuple #[.agg #[.int .i64 0, .int .i64 0, .int .i64 0, .int .u32 0, .int .u16 0], .bool false]) (by simp [results, Tryd.results9, go_sem, P8]) rfl ⟨rfl, hw8⟩
end Go.Proofs.YtjkhblfgadnjfaaDoor

/- Package ftp: the line, of any length. -/
namespace Go.Proofs.YtjkhblfgadnjfaaDoor
open Go.RowKit Go.Shelf
set_option maxRecDepth 100000
set_option linter.unusedVariables false
set_option linter.unusedSimpArgs false

set_option maxHeartbeats 4000000 in
theorem indexCr_one (sv : Value) (zs : List Int) (w : World) (hB : Mt.By zs) (hI : Rd w.heap.size w sv zs) (h1 : zs.length = 1) :
    Calls Tryd.prog 49 #[sv, .string ⟨#[13, 10]⟩] w fun e w' => ∃ r : Int, e = .returned (.int .i64 r) ∧ decide (0 ≤ r) = crl zs ∧ Below w.heap.size w w' := by
  obtain ⟨c, rfl⟩ : ∃ c, zs = [c] := by
    match zs, h1 with
    | [c], _ => exact ⟨c, rfl⟩
  obtain ⟨bb, off, cp, rfl, hl5, hl6, hl7, hcell⟩ := hI.cells (by simp)
  have hck : w.cell? ⟨bb, off, none⟩ = some (.int .u8 c) := hcell 0 (by simp)
  have hzb : 0 ≤ c ∧ c ≤ 255 := hB c (by simp)
  have HCR : Hid (crl [c] = isCr c) := by show _ = _; unfold crl; simp
  generalize crl [c] = cc at *
  simp only [List.length_singleton] at *
  clear hcell hI h1
  go_enter Tryd.func49, Tryd.ntmps49
  by_cases hasc : c < 128
  · have HX : Hid (decide (0 ≤ Lib.indexByte [13, 10] c.toNat.toUInt8) = isCr c) := ixcr c hzb
    generalize hixe : Lib.indexByte [13, 10] c.toNat.toUInt8 = ix at *
    have HIX := hide hixe
    clear hixe
    have hge : ¬ (128 : Int) ≤ c := by omega
    go_wp2_with fail
    rw [run_callFunc_extern Tryd.func61 (by kernel_rfl) (by kernel_rfl) (by kernel_rfl) (e := Extern.BytealgIndexByte.indexByte) (by kernel_rfl), Lib.run_indexByteString, HIX.out]
    simp only [Result.andThen]
    rw [Oper.upon_value]
    by_cases hx : 0 ≤ ix
    · go_wp2_with fail
      go_ret
      exact ⟨0, rfl, by rw [HCR.out, ← HX.out]; simp [hx], Below.refl _ _⟩
    · go_wp2_with fail
      go_ret
      exact ⟨-1, rfl, by rw [HCR.out, ← HX.out]; simp; omega, Below.refl _ _⟩
  · have hge : (128 : Int) ≤ c := by omega
    have HF : Hid (isCr c = false) := by show _ = _; unfold isCr; simp; omega
    go_wp2_with fail
    go_loopw [] (fun wx => ∃ pos : Nat, pos ≤ 2 ∧ wx = w.iter ⟨#[13, 10]⟩ pos) (fun wx => 2 - wx.iterPos w.heap.size)
    case atStart => exact ⟨0, by omega, rfl⟩
    case round =>
      obtain ⟨pos, hp, rfl⟩ := hrel
      have l3 : Later w (w.iter ⟨#[13, 10]⟩ pos) := iter_later _ _ _
      rcases (show pos = 0 ∨ pos = 1 ∨ pos = 2 by omega) with rfl | rfl | rfl
      · have hnx := run_next_any (P := Tryd.prog) w ⟨#[13, 10]⟩ 0 0 (by decide)
        rw [show Utf8.decode ⟨#[13, 10]⟩ 0 = (13, 1) from by decide] at hnx
        go_wp2_with fail
        go_roundw
        case rel => exact ⟨1, by omega, rfl⟩
        case measure => simp [World.iterPos_iter]
      · have hnx := run_next_any (P := Tryd.prog) w ⟨#[13, 10]⟩ 1 0 (by decide)
        rw [show Utf8.decode ⟨#[13, 10]⟩ 1 = (10, 1) from by decide] at hnx
        go_wp2_with fail
        go_roundw
        case rel => exact ⟨2, by omega, rfl⟩
        case measure => simp [World.iterPos_iter]
      · have hnx := run_next_end (P := Tryd.prog) w ⟨#[13, 10]⟩ 2 0 (by decide)
        go_wp2_with fail
        go_ret
        exact ⟨-1, rfl, by rw [HCR.out, HF.out]; rfl, l3⟩

set_option maxHeartbeats 1000000 in
theorem containsCr_all (sv : Value) (zs : List Int) (w : World) (hT : TabR w) (hB : Mt.By zs) (hI : Rd w.heap.size w sv zs) :
    Calls Tryd.prog 36 #[sv, .string ⟨#[13, 10]⟩] w fun e w' => e = .returned (.bool (crl zs)) ∧ Below w.heap.size w w' := by
  obtain ⟨av, cv, rfl, hlv, hmv⟩ := hI.slice
  have H : Hid (Calls Tryd.prog 49 #[.slice av zs.length cv, .string ⟨#[13, 10]⟩] w fun e w' => ∃ r : Int, e = .returned (.int .i64 r) ∧ decide (0 ≤ r) = crl zs ∧ Below w.heap.size w w') := by
    by_cases h8 : 8 < zs.length
    · exact indexCr_any _ zs w hB hI h8
    · by_cases h1 : zs.length = 1
      · exact indexCr_one _ zs w hB hI h1
      · exact indexCr_short _ zs w hT hB hI (by omega) h1
  clear hT
  go_enter Tryd.func36, Tryd.ntmps36
  go_wp2_with fail
  refine H.out.mono ?_
  rintro e w1 ⟨r, rfl, hr, b1⟩
  have HR := hide hr
  clear hr
  go_wp2_with fail
  go_ret
  exact ⟨by rw [← HR.out]; rfl, b1⟩

set_option maxHeartbeats 4000000 in
theorem lineOf_some (bb off cp : Nat) (zs : List Int) (w : World) (hT : TabR w) (hB : Mt.By zs) (hI : Rd w.heap.size w (.slice (some ⟨bb, off, none⟩) zs.length cp) zs) :
    Calls Tryd.prog 15 #[.slice (some ⟨bb, off, none⟩) zs.length cp] w fun e w' => e = .returned (lineV bb off cp zs) ∧ Below w.heap.size w w' := by
  have hb1 : Below w.heap.size w (w.alloc (.cells #[.int .u8 13, .int .u8 10] 5 (2, 3))) := (Below.refl _ _).alloc (Nat.le_refl _) _
  have l1 : Later w (w.alloc (.cells #[.int .u8 13, .int .u8 10] 5 (2, 3))) := hb1
  have HT := hide (hT.later l1)
  clear hT
  have hcl : ∀ j, (w.alloc (.cells #[.int .u8 13, .int .u8 10] 5 (2, 3))).cell? ⟨w.heap.size, j, none⟩ = #[Value.int .u8 13, .int .u8 10][j]? := fun j => World.cell?_alloc_mark w _ _ _ j
  have R1' : Rd (w.alloc (.cells #[.int .u8 13, .int .u8 10] 5 (2, 3))).heap.size (w.alloc (.cells #[.int .u8 13, .int .u8 10] 5 (2, 3))) (.slice (some ⟨w.heap.size, 0, none⟩) 2 2) [13, 10] := .inr ⟨w.heap.size, 0, 2, rfl, by simp, by simp, by omega, by simp, fun j hj => by
    have hj2 : j < 2 := hj
    rw [Nat.zero_add, hcl]
    have : j = 0 ∨ j = 1 := by omega
    rcases this with rfl | rfl <;> rfl⟩
  have hcv := Lib.run_convert_bytes_const (P := Tryd.prog) w 22 5 #[.int .u8 13, .int .u8 10] 2 2 Tryd.underlying22 Tryd.underlying5
  have HC := hide (cutSuffix_any bb off cp _ zs [13, 10] w.heap.size _ hB By_crlf (hI.later l1) R1' (by simp))
  have HO : Hid (oneL zs = (endB zs [13, 10] && (decide (zs.length ≤ 128) && !(crl (zs.take (zs.length - 2)))))) := rfl
  clear R1' hcl
  go_enter Tryd.func15, Tryd.ntmps15
  go_wp2_with fail
  refine HC.out.mono ?_
  rintro e w2 ⟨rfl, rfl⟩
  clear HC hcv
  cases hE : endB zs [13, 10] with
  | false =>
    rw [if_neg (by simp)]
    go_wp2_with fail
    go_ret
    exact ⟨by rw [lineV_no (by rw [HO.out, hE]; rfl)]; rfl, hb1⟩
  | true =>
    have hz2 : 2 ≤ zs.length := by unfold endB at hE; simp at hE; exact hE.1
    rw [if_pos rfl, show zs.length - ([13, 10] : List Int).length = zs.length - 2 from rfl]
    by_cases h128 : zs.length ≤ 128
    · have t2 : decide ((128 : Int) < zs.length) = false := by simp; omega
      have hl2 : (zs.take (zs.length - 2)).length = zs.length - 2 := by rw [List.length_take]; omega
      have HK := hide (containsCr_all (.slice (some ⟨bb, off, none⟩) (zs.length - 2) cp) (zs.take (zs.length - 2)) _ HT.out (hB.take _) ((hI.later l1).take (zs.length - 2) (by omega)))
      have HO2 : Hid (oneL zs = !(crl (zs.take (zs.length - 2)))) := by show _ = _; rw [HO.out, hE]; simp [h128]
      generalize crl (zs.take (zs.length - 2)) = cc at *
      clear hl2 HO hE hz2
      go_wp2_with fail
      refine HK.out.mono ?_
      rintro e w3 ⟨rfl, b3⟩
      have l3 := l1.trans b3
      cases cc with
      | true =>
        go_wp2_with fail
        go_ret
        exact ⟨by rw [lineV_no (by rw [HO2.out]; rfl)]; rfl, l3⟩
      | false =>
        go_wp2_with fail
        go_ret
        exact ⟨by rw [lineV_yes (by rw [HO2.out]; rfl)]; rfl, l3⟩
    · have t2 : decide ((128 : Int) < zs.length) = true := by simp; omega
      have HO2 : Hid (oneL zs = false) := by show _ = _; rw [HO.out]; simp [h128]
      clear HO hE hz2
      go_wp2_with fail
      go_ret
      exact ⟨by rw [lineV_no HO2.out]; rfl, hb1⟩

set_option maxHeartbeats 4000000 in
theorem lineOf_nil (a : Option Addr) (cp : Nat) (w : World) :
    Calls Tryd.prog 15 #[.slice a 0 cp] w fun e w' => e = .returned (.slice none 0 0) ∧ Below w.heap.size w w' := by
  have hb1 : Below w.heap.size w (w.alloc (.cells #[.int .u8 13, .int .u8 10] 5 (2, 3))) := (Below.refl _ _).alloc (Nat.le_refl _) _
  have hcv := Lib.run_convert_bytes_const (P := Tryd.prog) w 22 5 #[.int .u8 13, .int .u8 10] 2 2 Tryd.underlying22 Tryd.underlying5
  go_enter Tryd.func15, Tryd.ntmps15
  go_wp2
  go_ret
  exact ⟨rfl, hb1⟩
end Go.Proofs.YtjkhblfgadnjfaaDoor

/- Package ftp: Find of a line of no kind. -/
namespace Go.Proofs.YtjkhblfgadnjfaaDoor
open Go.RowKit Go.Shelf
set_option maxRecDepth 100000
set_option linter.unusedVariables false
set_option linter.unusedSimpArgs false

set_option maxHeartbeats 4000000 in
theorem find_k0 (sv : Value) (back : Bool) (bb off cp : Nat) (zs : List Int) (w : World) (hl : zs.length ≤ 1000) (hI : Rd w.heap.size w (.slice (some ⟨bb, off, none⟩) zs.length cp) zs) (hk : (kdV zs 0 back).1 = 0) (HL : ∀ W, Later w W → Calls Tryd.prog 15 #[sv] W fun e w' => e = .returned (.slice (some ⟨bb, off, none⟩) zs.length cp) ∧ Later W w') :
    Calls Tryd.prog 9 #[sv, .bool back] w fun e w' => e = .returned (.tuple #[.agg #[.int .i64 0, .int .i64 0, .int .i64 0, .int .u32 0, .int .u16 0], .bool false]) ∧ Below w.heap.size w w' := by
  have HL' := hide HL
  clear HL
  go_enter Tryd.func9, Tryd.ntmps9
  go_wp2
  refine wp_scope_jumps 0 (GU w.heap.size w) (fun _ _ => 0) rfl ?_ ?_
  · have l1 : Later w (w.alloc (.cells #[.int .i64 0, .int .i64 0, .int .i64 0, .int .u32 0, .int .u16 0] 27)) := later_allocR _ _
    have R1 := hide (heap_alloc_new w (.cells #[.int .i64 0, .int .i64 0, .int .i64 0, .int .u32 0, .int .u16 0] 27))
    go_wp2_with fail
    refine (HL'.out _ l1).mono ?_
    rintro e w2 ⟨rfl, l2⟩
    have R2 := hide ((l2.block w.heap.size (Array.getElem?_eq_some_iff.1 R1.out).1).trans R1.out)
    have B3 := hide (show RB (w2.alloc (.cells (rrc (.slice (some ⟨bb, off, none⟩) zs.length cp) ⟨0, 0, 0, 0, 0, 0⟩) 48)) w2.heap.size (.slice (some ⟨bb, off, none⟩) zs.length cp) ⟨0, 0, 0, 0, 0, 0⟩ from heap_alloc_new w2 _)
    have l3 := later_allocR w2 (.cells (rrc (.slice (some ⟨bb, off, none⟩) zs.length cp) ⟨0, 0, 0, 0, 0, 0⟩) 48)
    have L2 := l1.trans l2
    have hlt : w.heap.size < w2.heap.size := Nat.lt_of_lt_of_le (Array.getElem?_eq_some_iff.1 R1.out).1 l2.size
    go_upto_region 2 with fail
    rw [show (w2.alloc (.cells (rrc (.slice (some ⟨bb, off, none⟩) zs.length cp) ⟨0, 0, 0, 0, 0, 0⟩) 48)) = w2.alloc (.cells #[.slice (some ⟨bb, off, none⟩) zs.length cp, .int .i64 0, .int .i64 0, .int .i64 0, .int .i64 0, .int .u32 0, .int .u16 0] 48) from rfl] at B3 l3
    generalize w2.alloc _ = w3 at *
    generalize w2.heap.size = rb at *
    have L3 : Below w.heap.size w w3 := L2.trans l3
    have hrb : w.heap.size < rb := hlt
    have HK := hide (kind_any rb bb off cp w.heap.size zs back _ w3 B3.out (hI.below L3) hl (Nat.zero_le _) L3.size (by omega))
    rw [show (Rr.at0 ⟨0, 0, 0, 0, 0, 0⟩) = 0 from rfl, hk] at HK
    generalize (kdV zs 0 back).2 = p4 at *
    have R3 := hide ((l3.block w.heap.size (Array.getElem?_eq_some_iff.1 R2.out).1).trans R2.out)
    go_wp2_with fail
    refine HK.out.mono ?_
    rintro e w4 ⟨rfl, o4, b4⟩
    have B4 := hide b4
    have o4' : But (fun g => g = rb) w3 w4 := o4
    have R4 := hide ((o4'.block w.heap.size (Array.getElem?_eq_some_iff.1 R3.out).1 (by omega)).trans R3.out)
    have L4 : Below w.heap.size w w4 := L3.trans (o4'.below L3.size (fun k hk e => by omega))
    clear b4 o4
    have hlt4 : rb < w4.heap.size := (Array.getElem?_eq_some_iff.1 B4.out).1
    have kB := block_cell B4.out
    have fB := block_frozen B4.out
    unfold rrc atR at kB
    have B5 := hide (heap_set1 B4.out 2 (.int .i64 0))
    have b5 : But (fun q => q = rb) w4 (w4.setCell ⟨rb, 2, none⟩ (.int .i64 0)) := But.setCell (E := fun q => q = rb) (But.refl _ _) (p := ⟨rb, 2, none⟩) rfl _
    go_upto_region 3 with fail
    generalize w4.setCell ⟨rb, 2, none⟩ _ = w5 at *
    clear kB fB
    have B5' : w5.heap[rb]? = some (.cells #[.slice (some ⟨bb, off, none⟩) zs.length cp, .int .i64 (p4 : Int), .int .i64 0, .int .i64 0, .int .i64 0, .int .u32 0, .int .u16 0] 48 (0, 0)) := by have := B5.out; simp [rrc, atR] at this; exact this
    have kB := block_cell B5'
    have R5 := hide ((b5.block w.heap.size (by omega) (by omega)).trans R4.out)
    have L5 : Below w.heap.size w w5 := L4.trans (b5.below L4.size (fun k hk e => by omega))
    go_wp2_with fail
    go_step3
    exact ⟨rfl, _, _, _, _, _, _, _, _, _, _, _, _, _, _, _, _, _, _, _, _, _, _, _, _, _, _, _, _, _, _, _, _, _, _, _, _, _, _, _, _, _, _, _, _, _, _, _, _, _, _, _, _, _, _, _, _, _, _, _, _, _, _, _, _, _, _, _, _, _, _, _, rfl, R5.out, L5, Nat.le_refl _⟩
  · rintro a' W ⟨u0, u1, u2, u3, u5, u6, u7, u8, u9, u10, u11, u12, u13, u14, u15, u16, u17, u18, u19, u20, u21, u22, u23, u24, u25, u26, u27, u28, u29, u30, u31, u32, u33, u34, u35, u36, u37, u38, u39, u40, u41, u42, u43, u44, u45, u46, u47, u48, u49, u50, u51, u52, u53, u54, u55, u56, u57, u58, u59, u60, u61, u62, u63, u64, u65, u66, u67, u68, u69, u70, u71, rfl, hR, hb, hle⟩
    have kR := block_cell hR
    have fR := block_frozen hR
    have HR := hide hR
    clear hR
    go_wp2
    simp only [Exit.jump]
    generalize hV : (((((W.setCell ⟨w.heap.size, 0, none⟩ _).setCell ⟨w.heap.size, 1, none⟩ _).setCell ⟨w.heap.size, 2, none⟩ _).setCell ⟨w.heap.size, 3, none⟩ _).setCell ⟨w.heap.size, 4, none⟩ _) = V8
    have hV9 : V8 = putRow W w.heap.size 0 [.int .i64 0, .int .i64 0, .int .i64 0, .int .u32 0, .int .u16 0] := hV.symm
    have hb8 : But (fun b => b = w.heap.size) W V8 := by rw [hV9]; exact putRow_but (E := fun b => b = w.heap.size) (n := w.heap.size) rfl _ _ _ _ (But.refl _ _)
    have p8 := putRow_all [.int .i64 0, .int .i64 0, .int .i64 0, .int .u32 0, .int .u16 0] HR.out rfl
    rw [← hV9] at p8
    clear hV hV9 kR fR
    have P8 := block_cell p8
    have hw8 : Below w.heap.size w V8 := hb.trans (hb8.below hb.size (fun k h e => by omega))
    exact bodyPost_ret (v := .tuple #[.agg #[.int .i64 0, .int .i64 0, .int .i64 0, .int .u32 0, .int .u16 0], .bool false]) (by simp [results, Tryd.results9, go_sem, P8]) rfl ⟨rfl, hw8⟩
end Go.Proofs.YtjkhblfgadnjfaaDoor

/- Package ftp: Find of a PORT. -/
namespace Go.Proofs.YtjkhblfgadnjfaaDoor
open Go.RowKit Go.Shelf
set_option maxRecDepth 100000
set_option linter.unusedVariables false
set_option linter.unusedSimpArgs false

/-- What Find answers of nothing; of a line that names something. -/
def fdN : Value := .tuple #[.agg #[.int .i64 0, .int .i64 0, .int .i64 0, .int .u32 0, .int .u16 0], .bool false]
def fdY (kd st en ad pt : Int) : Value := .tuple #[.agg #[.int .i64 kd, .int .i64 st, .int .i64 en, .int .u32 ad, .int .u16 pt], .bool true]
def fd1 (zs : List Int) (p : Nat) : Value := match sixO zs p with
  | none => fdN
  | some x => if wat x.1 4 ≠ 0 ∧ x.2 = zs.length then fdY 1 p x.2 (wat4 x.1 0) (wat x.1 4) else fdN

set_option maxHeartbeats 4000000 in
theorem find_k1 (sv : Value) (back : Bool) (bb off cp : Nat) (zs : List Int) (w : World) (hl : zs.length ≤ 1000) (hI : Rd w.heap.size w (.slice (some ⟨bb, off, none⟩) zs.length cp) zs) (hz : Mt.By zs) (hcp : zs.length ≤ cp) (hk : (kdV zs 0 back).1 = 1) (hp4 : (kdV zs 0 back).2 ≤ zs.length) (HL : ∀ W, Later w W → Calls Tryd.prog 15 #[sv] W fun e w' => e = .returned (.slice (some ⟨bb, off, none⟩) zs.length cp) ∧ Later W w') :
    Calls Tryd.prog 9 #[sv, .bool back] w fun e w' => e = .returned (fd1 zs (kdV zs 0 back).2) ∧ Below w.heap.size w w' := by
  have HL' := hide HL
  clear HL
  go_enter Tryd.func9, Tryd.ntmps9
  go_wp2
  refine wp_scope_jumps 0 (fun a W => GU w.heap.size w a W ∧ fd1 zs (kdV zs 0 back).2 = fdN) (fun _ _ => 0) rfl ?_ ?_
  · have l1 : Later w (w.alloc (.cells #[.int .i64 0, .int .i64 0, .int .i64 0, .int .u32 0, .int .u16 0] 27)) := later_allocR _ _
    have R1 := hide (heap_alloc_new w (.cells #[.int .i64 0, .int .i64 0, .int .i64 0, .int .u32 0, .int .u16 0] 27))
    go_wp2_with fail
    refine (HL'.out _ l1).mono ?_
    rintro e w2 ⟨rfl, l2⟩
    have R2 := hide ((l2.block w.heap.size (Array.getElem?_eq_some_iff.1 R1.out).1).trans R1.out)
    have B3 := hide (show RB (w2.alloc (.cells (rrc (.slice (some ⟨bb, off, none⟩) zs.length cp) ⟨0, 0, 0, 0, 0, 0⟩) 48)) w2.heap.size (.slice (some ⟨bb, off, none⟩) zs.length cp) ⟨0, 0, 0, 0, 0, 0⟩ from heap_alloc_new w2 _)
    have l3 := later_allocR w2 (.cells (rrc (.slice (some ⟨bb, off, none⟩) zs.length cp) ⟨0, 0, 0, 0, 0, 0⟩) 48)
    have L2 := l1.trans l2
    have hlt : w.heap.size < w2.heap.size := Nat.lt_of_lt_of_le (Array.getElem?_eq_some_iff.1 R1.out).1 l2.size
    go_upto_region 2 with fail
    rw [show (w2.alloc (.cells (rrc (.slice (some ⟨bb, off, none⟩) zs.length cp) ⟨0, 0, 0, 0, 0, 0⟩) 48)) = w2.alloc (.cells #[.slice (some ⟨bb, off, none⟩) zs.length cp, .int .i64 0, .int .i64 0, .int .i64 0, .int .i64 0, .int .u32 0, .int .u16 0] 48) from rfl] at B3 l3
    generalize w2.alloc _ = w3 at *
    generalize w2.heap.size = rb at *
    have L3 : Below w.heap.size w w3 := L2.trans l3
    have hrb : w.heap.size < rb := hlt
    have HK := hide (kind_any rb bb off cp w.heap.size zs back _ w3 B3.out (hI.below L3) hl (Nat.zero_le _) L3.size (by omega))
    rw [show (Rr.at0 ⟨0, 0, 0, 0, 0, 0⟩) = 0 from rfl, hk] at HK
    generalize hp4e : (kdV zs 0 back).2 = p4 at *
    have EP := hide hp4e
    clear hp4e
    have R3 := hide ((l3.block w.heap.size (Array.getElem?_eq_some_iff.1 R2.out).1).trans R2.out)
    go_wp2_with fail
    refine HK.out.mono ?_
    rintro e w4 ⟨rfl, o4, b4⟩
    have B4 := hide b4
    have o4' : But (fun g => g = rb) w3 w4 := o4
    have R4 := hide ((o4'.block w.heap.size (Array.getElem?_eq_some_iff.1 R3.out).1 (by omega)).trans R3.out)
    have L4 : Below w.heap.size w w4 := L3.trans (o4'.below L3.size (fun k hk e => by omega))
    clear b4 o4
    have hlt4 : rb < w4.heap.size := (Array.getElem?_eq_some_iff.1 B4.out).1
    have kB := block_cell B4.out
    have fB := block_frozen B4.out
    unfold rrc atR at kB
    have B5 := hide (heap_set1 B4.out 2 (.int .i64 1))
    have b5 : But (fun q => q = rb) w4 (w4.setCell ⟨rb, 2, none⟩ (.int .i64 1)) := But.setCell (E := fun q => q = rb) (But.refl _ _) (p := ⟨rb, 2, none⟩) rfl _
    go_upto_region 3 with fail
    generalize w4.setCell ⟨rb, 2, none⟩ _ = w5 at *
    clear kB fB
    have B5' : w5.heap[rb]? = some (.cells #[.slice (some ⟨bb, off, none⟩) zs.length cp, .int .i64 (p4 : Int), .int .i64 1, .int .i64 0, .int .i64 0, .int .u32 0, .int .u16 0] 48 (0, 0)) := by have := B5.out; simp [rrc, atR] at this; exact this
    have kB := block_cell B5'
    have R5 := hide ((b5.block w.heap.size (by omega) (by omega)).trans R4.out)
    have L5 : Below w.heap.size w w5 := L4.trans (b5.below L4.size (fun k hk e => by omega))
    have hI5 : Rd w.heap.size w5 (.slice (some ⟨bb, off, none⟩) zs.length cp) zs := hI.below L5
    have HS := hide (six_any rb bb off cp w.heap.size zs hz ⟨p4, 1, 0, 0, 0, 0⟩ w5 B5' hI5 hl hp4 L5.size (by omega))
    have hlt5 : rb < w5.heap.size := (Array.getElem?_eq_some_iff.1 B5').1
    go_wp2_with fail
    refine HS.out.mono ?_
    clear kB
    rintro e w6 ⟨o6, ⟨hno, rfl⟩ | ⟨x, hx, rfl, hxl, b6⟩⟩
    · have R6 := hide ((o6.block w.heap.size (by omega) (by omega)).trans R5.out)
      have L6 : Below w.heap.size w w6 := L5.trans (o6.below L5.size (fun k hk e => by omega))
      go_wp2_with fail
      go_step3
      exact ⟨rfl, ⟨_, _, _, _, _, _, _, _, _, _, _, _, _, _, _, _, _, _, _, _, _, _, _, _, _, _, _, _, _, _, _, _, _, _, _, _, _, _, _, _, _, _, _, _, _, _, _, _, _, _, _, _, _, _, _, _, _, _, _, _, _, _, _, _, _, _, _, _, _, _, _, rfl, R6.out, L6, Nat.le_refl _⟩, by rw [EP.out]; unfold fd1; rw [hno]⟩
    · have R6 := hide ((o6.block w.heap.size (by omega) (by omega)).trans R5.out)
      have L6 : Below w.heap.size w w6 := L5.trans (o6.below L5.size (fun k hk e => by omega))
      have HX := hide hx
      by_cases hw0 : wat x.1 4 = 0
      · have t0 : decide (wat x.1 4 = 0) = true := by simp [hw0]
        have HW := hide hw0
        clear hw0 hx
        rw [t0]
        go_wp2_with fail
        go_step3
        exact ⟨rfl, ⟨_, _, _, _, _, _, _, _, _, _, _, _, _, _, _, _, _, _, _, _, _, _, _, _, _, _, _, _, _, _, _, _, _, _, _, _, _, _, _, _, _, _, _, _, _, _, _, _, _, _, _, _, _, _, _, _, _, _, _, _, _, _, _, _, _, _, _, _, _, _, _, rfl, R6.out, L6, Nat.le_refl _⟩, by rw [EP.out]; unfold fd1; rw [HX.out]; exact if_neg (fun h => h.1 HW.out)⟩
      · have t0 : decide (wat x.1 4 = 0) = false := by simp [hw0]
        have HW := hide hw0
        clear hw0 hx
        rw [t0]
        have HOV := hide (over_any rb (some ⟨bb, off, none⟩) zs.length cp _ w6 b6)
        rw [show (sixR ⟨p4, 1, 0, 0, 0, 0⟩ x.1 x.2).at0 = x.2 from rfl] at HOV
        have B6 := hide b6
        clear b6
        by_cases hov : x.2 = zs.length
        · have t1 : decide (x.2 = zs.length) = true := by simp [hov]
          rw [t1] at HOV
          have HV := hide hov
          clear hov t1 t0
          go_wp2_with fail
          refine HOV.out.mono ?_
          rintro e w7 ⟨rfl, l7⟩
          have R7 := hide ((l7.block w.heap.size (Array.getElem?_eq_some_iff.1 R6.out).1).trans R6.out)
          have L7 : Below w.heap.size w w7 := L6.trans (l7.mono L6.size)
          have B7 := hide (B6.out.later l7)
          have kB := block_cell B7.out
          unfold rrc sixR at kB
          have kR := block_cell R7.out
          have fR := block_frozen R7.out
          go_wp2_with fail
          simp only [Exit.jump]
          generalize hV : (((((w7.setCell ⟨w.heap.size, 0, none⟩ _).setCell ⟨w.heap.size, 1, none⟩ _).setCell ⟨w.heap.size, 2, none⟩ _).setCell ⟨w.heap.size, 3, none⟩ _).setCell ⟨w.heap.size, 4, none⟩ _) = V8
          have hV9 : V8 = putRow w7 w.heap.size 0 [.int .i64 1, .int .i64 (p4 : Int), .int .i64 (x.2 : Int), .int .u32 (wat4 x.1 0), .int .u16 (wat x.1 4)] := hV.symm
          have hb8 : But (fun b => b = w.heap.size) w7 V8 := by rw [hV9]; exact putRow_but (E := fun b => b = w.heap.size) (n := w.heap.size) rfl _ _ _ _ (But.refl _ _)
          have p8 := putRow_all [.int .i64 1, .int .i64 (p4 : Int), .int .i64 (x.2 : Int), .int .u32 (wat4 x.1 0), .int .u16 (wat x.1 4)] R7.out rfl
          rw [← hV9] at p8
          clear hV hV9 kR fR kB
          have P8 := block_cell p8
          have hw8 : Below w.heap.size w V8 := L7.trans (hb8.below L7.size (fun k h e => by omega))
          exact bodyPost_ret (v := fdY 1 p4 x.2 (wat4 x.1 0) (wat x.1 4)) (by unfold fdY; simp [results, Tryd.results9, go_sem, P8]) rfl ⟨by rw [EP.out]; unfold fd1; rw [HX.out]; exact congrArg _ (if_pos ⟨HW.out, HV.out⟩).symm, hw8⟩
        · have t1 : decide (x.2 = zs.length) = false := by simp [hov]
          rw [t1] at HOV
          have HV := hide hov
          clear hov t1 t0
          go_wp2_with fail
          refine HOV.out.mono ?_
          rintro e w7 ⟨rfl, l7⟩
          have R7 := hide ((l7.block w.heap.size (Array.getElem?_eq_some_iff.1 R6.out).1).trans R6.out)
          have L7 : Below w.heap.size w w7 := L6.trans (l7.mono L6.size)
          go_wp2_with fail
          go_step3
          exact ⟨rfl, ⟨_, _, _, _, _, _, _, _, _, _, _, _, _, _, _, _, _, _, _, _, _, _, _, _, _, _, _, _, _, _, _, _, _, _, _, _, _, _, _, _, _, _, _, _, _, _, _, _, _, _, _, _, _, _, _, _, _, _, _, _, _, _, _, _, _, _, _, _, _, _, _, rfl, R7.out, L7, Nat.le_refl _⟩, by rw [EP.out]; unfold fd1; rw [HX.out]; exact if_neg (fun h => HV.out h.2)⟩
  · rintro a' W ⟨⟨u0, u1, u2, u3, u5, u6, u7, u8, u9, u10, u11, u12, u13, u14, u15, u16, u17, u18, u19, u20, u21, u22, u23, u24, u25, u26, u27, u28, u29, u30, u31, u32, u33, u34, u35, u36, u37, u38, u39, u40, u41, u42, u43, u44, u45, u46, u47, u48, u49, u50, u51, u52, u53, u54, u55, u56, u57, u58, u59, u60, u61, u62, u63, u64, u65, u66, u67, u68, u69, u70, u71, rfl, hR, hb, hle⟩, hfd⟩
    have HFD := hide hfd
    clear hfd
    have kR := block_cell hR
    have fR := block_frozen hR
    have HR := hide hR
    clear hR
    go_wp2
    simp only [Exit.jump]
    generalize hV : (((((W.setCell ⟨w.heap.size, 0, none⟩ _).setCell ⟨w.heap.size, 1, none⟩ _).setCell ⟨w.heap.size, 2, none⟩ _).setCell ⟨w.heap.size, 3, none⟩ _).setCell ⟨w.heap.size, 4, none⟩ _) = V8
    have hV9 : V8 = putRow W w.heap.size 0 [.int .i64 0, .int .i64 0, .int .i64 0, .int .u32 0, .int .u16 0] := hV.symm
    have hb8 : But (fun b => b = w.heap.size) W V8 := by rw [hV9]; exact putRow_but (E := fun b => b = w.heap.size) (n := w.heap.size) rfl _ _ _ _ (But.refl _ _)
    have p8 := putRow_all [.int .i64 0, .int .i64 0, .int .i64 0, .int .u32 0, .int .u16 0] HR.out rfl
    rw [← hV9] at p8
    clear hV hV9 kR fR
    have P8 := block_cell p8
    have hw8 : Below w.heap.size w V8 := hb.trans (hb8.below hb.size (fun k h e => by omega))
    exact bodyPost_ret (v := .tuple #[.agg #[.int .i64 0, .int .i64 0, .int .i64 0, .int .u32 0, .int .u16 0], .bool false]) (by simp [results, Tryd.results9, go_sem, P8]) rfl ⟨by rw [HFD.out]; rfl, hw8⟩
end Go.Proofs.YtjkhblfgadnjfaaDoor
