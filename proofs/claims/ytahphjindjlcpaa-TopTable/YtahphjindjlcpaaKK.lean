/- Layer 5: Reverse, Key of both sides; bytesOf, Hash. -/
import Derived.Test.YtahphjindjlcpaaW4
namespace Go.Proofs.Ytahphjindjlcpaa
open Go.RowKit
set_option maxRecDepth 100000
set_option linter.unusedVariables false
set_option linter.unusedSimpArgs false

def kyp (p a : Int) : Int := if p == 47 then 0 else a

set_option maxHeartbeats 1000000 in
theorem key_any (p s d a b : Int) (w : World) : Calls Try.prog 35 #[.agg #[.int .u8 p, .int .u32 s, .int .u32 d, .int .u16 a, .int .u16 b]] w fun e w' => e = .returned (.agg #[.int .u8 p, .int .u32 s, .int .u32 d, .int .u16 (kyp p a), .int .u16 b]) ∧ Below w.heap.size w w' := by
  rcases Bool.eq_false_or_eq_true (p == 47) with h | h
  · rw [show kyp p a = 0 from by unfold kyp; rw [h]; rfl]
    go_enter Try.func35, Try.ntmps35
    go_wp2_with fail
    exact bodyPost_ret (v := .agg #[.int .u8 p, .int .u32 s, .int .u32 d, .int .u16 0, .int .u16 b]) (by simp [results, Try.results35, go_sem]) rfl ⟨rfl, ((Below.refl _ _).alloc (Nat.le_refl _) _).alloc (by simp) _⟩
  · rw [show kyp p a = a from by unfold kyp; rw [h]; rfl]
    go_enter Try.func35, Try.ntmps35
    go_wp2_with fail
    exact bodyPost_ret (v := .agg #[.int .u8 p, .int .u32 s, .int .u32 d, .int .u16 a, .int .u16 b]) (by simp [results, Try.results35, go_sem]) rfl ⟨rfl, ((Below.refl _ _).alloc (Nat.le_refl _) _).alloc (by simp) _⟩

set_option maxHeartbeats 1000000 in
theorem rkey_any (p s d a b : Int) (w : World) : Calls Try.prog 45 #[.agg #[.int .u8 p, .int .u32 s, .int .u32 d, .int .u16 a, .int .u16 b]] w fun e w' => e = .returned (.agg #[.int .u8 p, .int .u32 s, .int .u32 d, .int .u16 (kyp p a), .int .u16 b]) ∧ Below w.heap.size w w' := by
  rcases Bool.eq_false_or_eq_true (p == 47) with h | h
  · rw [show kyp p a = 0 from by unfold kyp; rw [h]; rfl]
    go_enter Try.func45, Try.ntmps45
    go_wp2_with fail
    exact bodyPost_ret (v := .agg #[.int .u8 p, .int .u32 s, .int .u32 d, .int .u16 0, .int .u16 b]) (by simp [results, Try.results45, go_sem]) rfl ⟨rfl, ((Below.refl _ _).alloc (Nat.le_refl _) _).alloc (by simp) _⟩
  · rw [show kyp p a = a from by unfold kyp; rw [h]; rfl]
    go_enter Try.func45, Try.ntmps45
    go_wp2_with fail
    exact bodyPost_ret (v := .agg #[.int .u8 p, .int .u32 s, .int .u32 d, .int .u16 a, .int .u16 b]) (by simp [results, Try.results45, go_sem]) rfl ⟨rfl, ((Below.refl _ _).alloc (Nat.le_refl _) _).alloc (by simp) _⟩

def tb (p s d a b : Int) : List Int := [p, s / 16777216, s / 65536 % 256, s / 256 % 256, s % 256, d / 16777216, d / 65536 % 256, d / 256 % 256, d % 256, a / 256, a % 256, b / 256, b % 256]
set_option maxHeartbeats 1000000 in
theorem bytesOf_any (p s d a b : Int) (w : World) (hs : 0 ≤ s ∧ s ≤ 4294967295) (hd : 0 ≤ d ∧ d ≤ 4294967295) (ha : 0 ≤ a ∧ a ≤ 65535) (hb : 0 ≤ b ∧ b ≤ 65535) : Calls Try.prog 48 #[.agg #[.int .u8 p, .int .u32 s, .int .u32 d, .int .u16 a, .int .u16 b]] w fun e w' => e = .returned (.agg ((tb p s d a b).map (.int .u8)).toArray) ∧ Below w.heap.size w w' := by
  go_enter Try.func48, Try.ntmps48
  go_wp2_with fail
  exact bodyPost_ret (v := .agg #[.int .u8 (p), .int .u8 (s / 16777216), .int .u8 (s / 65536 % 256), .int .u8 (s / 256 % 256), .int .u8 (s % 256), .int .u8 (d / 16777216), .int .u8 (d / 65536 % 256), .int .u8 (d / 256 % 256), .int .u8 (d % 256), .int .u8 (a / 256), .int .u8 (a % 256), .int .u8 (b / 256), .int .u8 (b % 256)]) (by simp [results, Try.results48, go_sem]) rfl ⟨rfl, ((Below.refl _ _).alloc (Nat.le_refl _) _).alloc (by simp) _⟩

def hstep (h x : Int) : Int := bits .xor .u32 h (x % 4294967296) * 16777619 % 4294967296
def hsh (zs : List Int) : Int := zs.foldl hstep 2166136261

set_option maxHeartbeats 2000000 in
theorem hash_any (p s d a b : Int) (w : World) (hs : 0 ≤ s ∧ s ≤ 4294967295) (hd : 0 ≤ d ∧ d ≤ 4294967295) (ha : 0 ≤ a ∧ a ≤ 65535) (hb : 0 ≤ b ∧ b ≤ 65535) : Calls Try.prog 34 #[.agg #[.int .u8 p, .int .u32 s, .int .u32 d, .int .u16 a, .int .u16 b]] w fun e w' => e = .returned (.int .u32 (hsh (tb p s d (kyp p a) b))) ∧ Below w.heap.size w w' := by
  have hk : 0 ≤ kyp p a ∧ kyp p a ≤ 65535 := by unfold kyp; split <;> omega
  have hb0 : Below w.heap.size w (w.alloc (.cells #[.int .u8 p, .int .u32 s, .int .u32 d, .int .u16 a, .int .u16 b] 26)) := (Below.refl _ _).alloc (Nat.le_refl _) _
  go_enter Try.func34, Try.ntmps34
  go_wp2_with fail
  generalize w.alloc (.cells #[.int .u8 p, .int .u32 s, .int .u32 d, .int .u16 a, .int .u16 b] 26) = w0 at *
  refine (key_any p s d a b _).mono ?_
  rintro e w1 ⟨rfl, hb1⟩
  have hw1 := hb0.trans (hb1.mono hb0.size)
  generalize hkk0 : kyp p a = ka at *
  have HKA := hide hkk0
  clear hkk0
  go_wp2_with fail
  refine (bytesOf_any p s d ka b _ hs hd hk hb).mono ?_
  rintro e w2 ⟨rfl, hb2⟩
  have hw2 := hw1.trans (hb2.mono hw1.size)
  obtain ⟨x0, x1, x2, x3, x4, x5, x6, x7, x8, x9, xa, xb, xc, hx⟩ : ∃ x0 x1 x2 x3 x4 x5 x6 x7 x8 x9 xa xb xc, tb p s d ka b = [x0, x1, x2, x3, x4, x5, x6, x7, x8, x9, xa, xb, xc] := ⟨_, _, _, _, _, _, _, _, _, _, _, _, _, rfl⟩
  have HX := hide hx
  rw [hx]
  simp only [List.map_cons, List.map_nil]
  clear hx
  go_wp2_with fail
  go_loopw [3, 9] (fun h i wr => ∃ k hv : Int, (0 ≤ k ∧ k ≤ 13) ∧ i = .int .i64 k ∧ h = .int .u32 hv ∧ (0 ≤ hv ∧ hv ≤ 4294967295) ∧ Hid (hv = hsh ([x0, x1, x2, x3, x4, x5, x6, x7, x8, x9, xa, xb, xc].take k.toNat)) ∧ wr = w2) (fun _ i _ => 13 - (intOf i).toNat)
  case atStart => exact ⟨0, 2166136261, by omega, rfl, rfl, by omega, rfl, rfl⟩
  case round =>
    obtain ⟨k, hv, hk13, rfl, rfl, hvb, HV, rfl⟩ := hrel
    have hkk : k = 0 ∨ k = 1 ∨ k = 2 ∨ k = 3 ∨ k = 4 ∨ k = 5 ∨ k = 6 ∨ k = 7 ∨ k = 8 ∨ k = 9 ∨ k = 10 ∨ k = 11 ∨ k = 12 ∨ k = 13 := by omega
    rcases hkk with rfl | rfl | rfl | rfl | rfl | rfl | rfl | rfl | rfl | rfl | rfl | rfl | rfl | rfl
    · have hix : ∀ W : World, (Instr.index 92 (.agg #[.int .u8 x0, .int .u8 x1, .int .u8 x2, .int .u8 x3, .int .u8 x4, .int .u8 x5, .int .u8 x6, .int .u8 x7, .int .u8 x8, .int .u8 x9, .int .u8 xa, .int .u8 xb, .int .u8 xc]) (.int .i64 0)).run Try.prog W = .ok (.int .u8 x0) W := fun W => by kernel_rfl
      go_wp2_with fail
      exact ⟨⟨1, hstep hv x0, by omega, rfl, rfl, by unfold hstep; omega, by show _ = _; rw [HV.out]; rfl, trivial⟩, by simp [intOf]⟩
    · have hix : ∀ W : World, (Instr.index 92 (.agg #[.int .u8 x0, .int .u8 x1, .int .u8 x2, .int .u8 x3, .int .u8 x4, .int .u8 x5, .int .u8 x6, .int .u8 x7, .int .u8 x8, .int .u8 x9, .int .u8 xa, .int .u8 xb, .int .u8 xc]) (.int .i64 1)).run Try.prog W = .ok (.int .u8 x1) W := fun W => by kernel_rfl
      go_wp2_with fail
      exact ⟨⟨2, hstep hv x1, by omega, rfl, rfl, by unfold hstep; omega, by show _ = _; rw [HV.out]; rfl, trivial⟩, by simp [intOf]⟩
    · have hix : ∀ W : World, (Instr.index 92 (.agg #[.int .u8 x0, .int .u8 x1, .int .u8 x2, .int .u8 x3, .int .u8 x4, .int .u8 x5, .int .u8 x6, .int .u8 x7, .int .u8 x8, .int .u8 x9, .int .u8 xa, .int .u8 xb, .int .u8 xc]) (.int .i64 2)).run Try.prog W = .ok (.int .u8 x2) W := fun W => by kernel_rfl
      go_wp2_with fail
      exact ⟨⟨3, hstep hv x2, by omega, rfl, rfl, by unfold hstep; omega, by show _ = _; rw [HV.out]; rfl, trivial⟩, by simp [intOf]⟩
    · have hix : ∀ W : World, (Instr.index 92 (.agg #[.int .u8 x0, .int .u8 x1, .int .u8 x2, .int .u8 x3, .int .u8 x4, .int .u8 x5, .int .u8 x6, .int .u8 x7, .int .u8 x8, .int .u8 x9, .int .u8 xa, .int .u8 xb, .int .u8 xc]) (.int .i64 3)).run Try.prog W = .ok (.int .u8 x3) W := fun W => by kernel_rfl
      go_wp2_with fail
      exact ⟨⟨4, hstep hv x3, by omega, rfl, rfl, by unfold hstep; omega, by show _ = _; rw [HV.out]; rfl, trivial⟩, by simp [intOf]⟩
    · have hix : ∀ W : World, (Instr.index 92 (.agg #[.int .u8 x0, .int .u8 x1, .int .u8 x2, .int .u8 x3, .int .u8 x4, .int .u8 x5, .int .u8 x6, .int .u8 x7, .int .u8 x8, .int .u8 x9, .int .u8 xa, .int .u8 xb, .int .u8 xc]) (.int .i64 4)).run Try.prog W = .ok (.int .u8 x4) W := fun W => by kernel_rfl
      go_wp2_with fail
      exact ⟨⟨5, hstep hv x4, by omega, rfl, rfl, by unfold hstep; omega, by show _ = _; rw [HV.out]; rfl, trivial⟩, by simp [intOf]⟩
    · have hix : ∀ W : World, (Instr.index 92 (.agg #[.int .u8 x0, .int .u8 x1, .int .u8 x2, .int .u8 x3, .int .u8 x4, .int .u8 x5, .int .u8 x6, .int .u8 x7, .int .u8 x8, .int .u8 x9, .int .u8 xa, .int .u8 xb, .int .u8 xc]) (.int .i64 5)).run Try.prog W = .ok (.int .u8 x5) W := fun W => by kernel_rfl
      go_wp2_with fail
      exact ⟨⟨6, hstep hv x5, by omega, rfl, rfl, by unfold hstep; omega, by show _ = _; rw [HV.out]; rfl, trivial⟩, by simp [intOf]⟩
    · have hix : ∀ W : World, (Instr.index 92 (.agg #[.int .u8 x0, .int .u8 x1, .int .u8 x2, .int .u8 x3, .int .u8 x4, .int .u8 x5, .int .u8 x6, .int .u8 x7, .int .u8 x8, .int .u8 x9, .int .u8 xa, .int .u8 xb, .int .u8 xc]) (.int .i64 6)).run Try.prog W = .ok (.int .u8 x6) W := fun W => by kernel_rfl
      go_wp2_with fail
      exact ⟨⟨7, hstep hv x6, by omega, rfl, rfl, by unfold hstep; omega, by show _ = _; rw [HV.out]; rfl, trivial⟩, by simp [intOf]⟩
    · have hix : ∀ W : World, (Instr.index 92 (.agg #[.int .u8 x0, .int .u8 x1, .int .u8 x2, .int .u8 x3, .int .u8 x4, .int .u8 x5, .int .u8 x6, .int .u8 x7, .int .u8 x8, .int .u8 x9, .int .u8 xa, .int .u8 xb, .int .u8 xc]) (.int .i64 7)).run Try.prog W = .ok (.int .u8 x7) W := fun W => by kernel_rfl
      go_wp2_with fail
      exact ⟨⟨8, hstep hv x7, by omega, rfl, rfl, by unfold hstep; omega, by show _ = _; rw [HV.out]; rfl, trivial⟩, by simp [intOf]⟩
    · have hix : ∀ W : World, (Instr.index 92 (.agg #[.int .u8 x0, .int .u8 x1, .int .u8 x2, .int .u8 x3, .int .u8 x4, .int .u8 x5, .int .u8 x6, .int .u8 x7, .int .u8 x8, .int .u8 x9, .int .u8 xa, .int .u8 xb, .int .u8 xc]) (.int .i64 8)).run Try.prog W = .ok (.int .u8 x8) W := fun W => by kernel_rfl
      go_wp2_with fail
      exact ⟨⟨9, hstep hv x8, by omega, rfl, rfl, by unfold hstep; omega, by show _ = _; rw [HV.out]; rfl, trivial⟩, by simp [intOf]⟩
    · have hix : ∀ W : World, (Instr.index 92 (.agg #[.int .u8 x0, .int .u8 x1, .int .u8 x2, .int .u8 x3, .int .u8 x4, .int .u8 x5, .int .u8 x6, .int .u8 x7, .int .u8 x8, .int .u8 x9, .int .u8 xa, .int .u8 xb, .int .u8 xc]) (.int .i64 9)).run Try.prog W = .ok (.int .u8 x9) W := fun W => by kernel_rfl
      go_wp2_with fail
      exact ⟨⟨10, hstep hv x9, by omega, rfl, rfl, by unfold hstep; omega, by show _ = _; rw [HV.out]; rfl, trivial⟩, by simp [intOf]⟩
    · have hix : ∀ W : World, (Instr.index 92 (.agg #[.int .u8 x0, .int .u8 x1, .int .u8 x2, .int .u8 x3, .int .u8 x4, .int .u8 x5, .int .u8 x6, .int .u8 x7, .int .u8 x8, .int .u8 x9, .int .u8 xa, .int .u8 xb, .int .u8 xc]) (.int .i64 10)).run Try.prog W = .ok (.int .u8 xa) W := fun W => by kernel_rfl
      go_wp2_with fail
      exact ⟨⟨11, hstep hv xa, by omega, rfl, rfl, by unfold hstep; omega, by show _ = _; rw [HV.out]; rfl, trivial⟩, by simp [intOf]⟩
    · have hix : ∀ W : World, (Instr.index 92 (.agg #[.int .u8 x0, .int .u8 x1, .int .u8 x2, .int .u8 x3, .int .u8 x4, .int .u8 x5, .int .u8 x6, .int .u8 x7, .int .u8 x8, .int .u8 x9, .int .u8 xa, .int .u8 xb, .int .u8 xc]) (.int .i64 11)).run Try.prog W = .ok (.int .u8 xb) W := fun W => by kernel_rfl
      go_wp2_with fail
      exact ⟨⟨12, hstep hv xb, by omega, rfl, rfl, by unfold hstep; omega, by show _ = _; rw [HV.out]; rfl, trivial⟩, by simp [intOf]⟩
    · have hix : ∀ W : World, (Instr.index 92 (.agg #[.int .u8 x0, .int .u8 x1, .int .u8 x2, .int .u8 x3, .int .u8 x4, .int .u8 x5, .int .u8 x6, .int .u8 x7, .int .u8 x8, .int .u8 x9, .int .u8 xa, .int .u8 xb, .int .u8 xc]) (.int .i64 12)).run Try.prog W = .ok (.int .u8 xc) W := fun W => by kernel_rfl
      go_wp2_with fail
      exact ⟨⟨13, hstep hv xc, by omega, rfl, rfl, by unfold hstep; omega, by show _ = _; rw [HV.out]; rfl, trivial⟩, by simp [intOf]⟩
    · go_wp2_with fail
      exact bodyPost_ret (v := .int .u32 hv) (by simp [results, Try.results34, go_sem]) rfl ⟨by rw [HKA.out, HX.out, HV.out]; rfl, hw2⟩
end Go.Proofs.Ytahphjindjlcpaa
