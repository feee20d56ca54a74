/- What stands ahead of a packet's data: Pseudo and the document's answer; bytes as strings. -/
import Derived.Laws.BytesArg
import Derived.Test.YtohflohdbkamnaaGreatDoorW7
namespace Go.Proofs.YtohflohdbkamnaaGreatDoor
open Go.RowKit Go.Shelf
set_option maxRecDepth 100000

/-- The twelve bytes. -/
def psd (s d p n : Int) : List Int := [s / 16777216, s / 65536 % 256, s / 256 % 256, s % 256, d / 16777216, d / 65536 % 256, d / 256 % 256, d % 256, 0, p, n / 256 % 256, n % 256]

theorem psd_eq (s d p n : Int) : Mt.put2 ((put4 (put4 (List.replicate 12 0) 0 s) 4 d).set 9 p) 10 (n % 65536) = psd s d p n := by
  have e : ∀ v : Int, v / 65536 / 256 = v / 16777216 ∧ v % 65536 / 256 = v / 256 % 256 ∧ v % 65536 % 256 = v % 256 := fun v => by omega
  simp [Mt.put2, put4, psd, List.replicate, e]

set_option maxHeartbeats 1000000 in
theorem pseudo_any (s d p n : Int) (hs : 0 ≤ s ∧ s ≤ 4294967295) (hd : 0 ≤ d ∧ d ≤ 4294967295) (w : World) :
    Calls Tryz.prog 275 #[.int .u32 s, .int .u32 d, .int .u8 p, .int .i64 n] w fun e w' => ∃ a, e = .returned (.slice a 12 12) ∧ Ow w.heap.size w' (.slice a 12 12) (psd s d p n) ∧ Below w.heap.size w w' := by
  obtain ⟨i0, hi, hz0, hz1, hz2⟩ := info_parts info_u8
  have hn0 : 0 ≤ n % 65536 ∧ n % 65536 ≤ 65535 := by omega
  go_enter Tryz.func275, Tryz.ntmps275
  go_wp2_with (at_make; go_must (refine wpList_make_full _ rfl _ _ 23 rfl w.heap.size 5 i0 (.int .u8 0) 1 Tryz.underlying23 hi hz0 hz1 _ _ _ _ 12 rfl rfl (by rfl) (by rfl) (by rw [hz2]; omega) (by unfold maxLen; omega) (Nat.le_refl _) ?_); intro w2 hown2 hg2; go_must (have hz := Ow.of_row (own_made hown2)); clear hown2; have hb2 : Below w.heap.size w w2 := (Below.refl _ w).grown hg2 (Nat.le_refl _) (fun _ e => by cases e); clear hg2)
  refine (set32_ow w.heap.size _ 12 12 _ 0 s _ hz (by simp) hs).mono ?_
  rintro e w3 ⟨rfl, hO3, hb3⟩
  go_wp2_with fail
  refine (set32_ow w.heap.size _ 12 12 _ 4 d _ hO3 (by simp [put4_length]) hd).mono ?_
  rintro e w4 ⟨rfl, hO4, hb4⟩
  have hl4 : 9 < (put4 (put4 (List.replicate 12 0) 0 s) 4 d).length := by simp [put4_length]
  have HL := hide (psd_eq s d p n)
  generalize put4 (put4 (List.replicate 12 0) 0 s) 4 d = l4 at *
  obtain ⟨g, hg, hle, _, hcf, hset⟩ := hO4.at (by omega)
  obtain ⟨c9, f9⟩ := hcf 9 hl4
  have hO5 := hset 9 p hl4
  cases hg
  have hl5 : 10 + 1 < (l4.set 9 p).length := by simp; omega
  generalize l4.set 9 p = l5 at *
  generalize l4[9]?.getD 0 = y9 at *
  clear hcf hset hO3 hO4 hz hle hl4
  have hb5 := ((hb2.trans hb3).trans hb4).setCell (p := ⟨w.heap.size, 9, none⟩) (Nat.le_refl _) (.int .u8 p)
  go_wp2_with fail
  rw [IntKind.wrap_u16]
  refine (set16_ow w.heap.size _ 12 12 _ 10 _ _ hO5 hl5 hn0).mono ?_
  rintro e w6 ⟨rfl, hO6, hb6⟩
  rw [HL.out] at hO6
  go_wp2
  go_ret
  exact ⟨_, rfl, hO6, hb5.trans hb6⟩

end Go.Proofs.YtohflohdbkamnaaGreatDoor
