/- What stands ahead of a packet's data: Pseudo and the document's answer; bytes as strings. -/
import Derived.Laws.BytesArg
import Derived.Test.YtghpakfjpdifaaaGreatDoorW7
namespace Go.Proofs.YtghpakfjpdifaaaGreatDoor
open Go.RowKit Go.Shelf
set_option maxRecDepth 100000

/-- Bytes as a string, wherever they lie. -/
theorem conv_rd {P : Program} {n₀ : Nat} {w : World} {sv : Value} {zs : List Int} (src dst e : TypeId) (hs : P.underlying src = some (.slice e)) (he : P.underlying e = some (.int .u8)) (hd : P.underlying dst = some .string) (hI : Rd n₀ w sv zs) :
  (convert src dst sv).run P w = .ok (.string (strOfNums zs)) w := by
 rcases hI with ⟨a, cap, rfl, rfl, _, hn⟩ | ⟨b, off, cap, rfl, _, _, _, _, hc⟩
 ·cases a with
  | none => rw [run_convert_bytes_nil w src e hs he 0 cap dst hd]; rfl
  | some ad =>
   rw [run_convert_bytes_string w src dst e _ 0 cap hs he hd, run_bytesToString w ad 0 cap [] (by simp [loadCells]; rfl)]
   rfl
 ·exact run_convert_bytes_arg w src e hs he b off zs.length cap zs rfl (fun i hi => by rw [hc i hi]; rfl) dst hd

/-- The twelve bytes. -/
def psd (s d p n : Int) : List Int := [s / 16777216, s / 65536 % 256, s / 256 % 256, s % 256, d / 16777216, d / 65536 % 256, d / 256 % 256, d % 256, 0, p, n / 256 % 256, n % 256]

set_option maxHeartbeats 1000000 in
theorem four_any (v : Int) (hv : 0 ≤ v ∧ v ≤ 4294967295) (w : World) :
  Calls Tryz.prog 34 #[.int .u32 v] w fun e w' => e = .returned (.slice (some ⟨w.heap.size, 0, none⟩) 4 4) ∧ w' = w.alloc (.cells #[.int .u8 (v / 16777216), .int .u8 (v / 65536 % 256), .int .u8 (v / 256 % 256), .int .u8 (v % 256)] 5) := by
 go_enter Tryz.func34, Tryz.ntmps34
 go_wp2
 go_ret
 exact ⟨rfl, rfl⟩

set_option maxHeartbeats 1000000 in
theorem two_any (v : Int) (hv : 0 ≤ v ∧ v ≤ 65535) (w : World) :
  Calls Tryz.prog 68 #[.int .u16 v] w fun e w' => e = .returned (.slice (some ⟨w.heap.size, 0, none⟩) 2 2) ∧ w' = w.alloc (.cells #[.int .u8 (v / 256), .int .u8 (v % 256)] 5) := by
 go_enter Tryz.func68, Tryz.ntmps68
 go_wp2
 go_ret
 exact ⟨rfl, rfl⟩

theorem psd_eq (s d p n : Int) : Mt.put2 ((put4 (put4 (List.replicate 12 0) 0 s) 4 d).set 9 p) 10 (n % 65536) = psd s d p n := by
 have e : ∀ v : Int, v / 65536 / 256 = v / 16777216 ∧ v % 65536 / 256 = v / 256 % 256 ∧ v % 65536 % 256 = v % 256 := fun v => by omega
 simp [Mt.put2, put4, psd, List.replicate, e]

set_option maxHeartbeats 1000000 in
theorem pseudo_any (s d p n : Int) (hs : 0 ≤ s ∧ s ≤ 4294967295) (hd : 0 ≤ d ∧ d ≤ 4294967295) (w : World) :
  Calls Tryz.prog 128 #[.int .u32 s, .int .u32 d, .int .u8 p, .int .i64 n] w fun e w' => ∃ a, e = .returned (.slice a 12 12) ∧ Ow w.heap.size w' (.slice a 12 12) (psd s d p n) ∧ Below w.heap.size w w' := by
 obtain ⟨i0, hi, hz0, hz1, hz2⟩ := info_parts info_u8
 have hn0 : 0 ≤ n % 65536 ∧ n % 65536 ≤ 65535 := by omega
 go_enter Tryz.func128, Tryz.ntmps128
 go_wp2_with (at_make; go_must (refine wpList_make_full _ rfl _ _ 24 rfl w.heap.size 5 i0 (.int .u8 0) 1 Tryz.underlying24 hi hz0 hz1 _ _ _ _ 12 rfl rfl (by rfl) (by rfl) (by rw [hz2]; omega) (by unfold maxLen; omega) (Nat.le_refl _) ?_); intro w2 hown2 hg2; go_must (have hz := Ow.of_row (own_made hown2)); clear hown2; have hb2 : Below w.heap.size w w2 := (Below.refl _ w).grown hg2 (Nat.le_refl _) (fun _ e => by cases e); clear hg2)
 refine (set32_ow w.heap.size _ 12 12 _ 0 s _ hz (by simp) hs).mono ?_
 rintro e w3 ⟨rfl, hO3, hb3⟩
 go_wp2_with fail
 refine (set32_ow w.heap.size _ 12 12 _ 4 d _ hO3 (by simp [put4_length]) hd).mono ?_
 rintro e w4 ⟨rfl, hO4, hb4⟩
 have hl4 : 9 < (put4 (put4 (List.replicate 12 0) 0 s) 4 d).length := by simp [put4_length]
 have HL := hide (psd_eq s d p n)
 generalize put4 (put4 (List.replicate 12 0) 0 s) 4 d = l4 at *
 obtain ⟨g, hg, hle, _, hcf, hset⟩ := hO4.at (by omega)
 obtain ⟨c9, f9⟩ := hcf 9 hl4
 have hO5 := hset 9 p hl4
 cases hg
 have hl5 : 10 + 1 < (l4.set 9 p).length := by simp; omega
 generalize l4.set 9 p = l5 at *
 generalize l4[9]?.getD 0 = y9 at *
 clear hcf hset hO3 hO4 hz hle hl4
 have hb5 := ((hb2.trans hb3).trans hb4).setCell (p := ⟨w.heap.size, 9, none⟩) (Nat.le_refl _) (.int .u8 p)
 go_wp2_with fail
 rw [IntKind.wrap_u16]
 refine (set16_ow w.heap.size _ 12 12 _ 10 _ _ hO5 hl5 hn0).mono ?_
 rintro e w6 ⟨rfl, hO6, hb6⟩
 rw [HL.out] at hO6
 go_wp2
 go_ret
 exact ⟨_, rfl, hO6, hb5.trans hb6⟩

theorem Rd.new2 (x y : Int) (e : TypeId) (w : World) : Rd (w.heap.size + 1) (w.alloc (.cells #[.int .u8 x, .int .u8 y] e)) (.slice (some ⟨w.heap.size, 0, none⟩) 2 2) [x, y] := Rd.new [x, y] e w (by simp) (by simp)
theorem Rd.new4 (x y z u : Int) (e : TypeId) (w : World) : Rd (w.heap.size + 1) (w.alloc (.cells #[.int .u8 x, .int .u8 y, .int .u8 z, .int .u8 u] e)) (.slice (some ⟨w.heap.size, 0, none⟩) 4 4) [x, y, z, u] := Rd.new [x, y, z, u] e w (by simp) (by simp)

end Go.Proofs.YtghpakfjpdifaaaGreatDoor
