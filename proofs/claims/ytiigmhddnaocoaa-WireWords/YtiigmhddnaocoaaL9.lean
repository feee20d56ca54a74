/- The walk of the law WireWords. -/
import Derived.Test.YtiigmhddnaocoaaWA
import Derived.Deep.RegionHeld
namespace Go.Proofs.Ytiigmhddnaocoaa
open Go.RowKit Go.Shelf

set_option maxHeartbeats 4000000 in
theorem walk_WireWords (w : World) (sv : Value) (zs : List Int) (hB : Mt.By zs) (hI : Rd w.heap.size w sv zs) (p : Int) (hp : -9223372036854775808 ≤ p ∧ p ≤ 9223372036854775807) (v : Int) (hv : 0 ≤ v ∧ v ≤ 4294967295) :
    Calls Try.prog 5 #[sv, .int .i64 p, .int .u32 v] w fun e w' => e = .returned (.bool true) ∧ Below w.heap.size w w' := by
  obtain ⟨i0, hi, hz0, hz1, hz2⟩ := info_parts info_u8
  obtain ⟨a, cap, rfl, hl, hm⟩ := hI.slice
  have HF := hide (few_rd _ zs w hI)
  obtain ⟨hB2, hl3⟩ := take5 zs hB
  generalize zs.take 5000 = ys at *
  generalize zs.length = len at *
  clear hI hB
  have hv2 : 0 ≤ v % 65536 ∧ v % 65536 ≤ 65535 := by omega
  go_enter Try.func5, Try.ntmps5
  go_wp2_with fail
  refine (unhide HF).mono ?_
  rintro e w1 ⟨a1, cap1, rfl, hI2, rfl⟩
  clear HF
  have hbA : Below w1.heap.size w1 (w1.alloc (.cells #[] 5)) := (Below.refl _ w1).alloc (Nat.le_refl _) _
  go_wp2_with (at_builtin; refine wpList_app _ rfl (.tmp 12) (.tmp 13) 22 rfl w1.heap.size 5 i0 Try.underlying22 hi hz0 hz1 hz2 _ [] rfl (own_empty w1 _) w1.heap.size _ ys rfl (hI2.below hbA) (by simp; omega) (by simp) ?_; intro v2 w2 hown2 hg2; have hb2 := below_app hbA (own_empty w1 _) hg2 (Nat.le_refl _) (by simp); clear hg2 hbA; simp only [List.nil_append] at hown2; have hO2 := Ow.of_row hown2; clear hown2; obtain ⟨a2, cap2, rfl, hl2, hm2⟩ := hO2.slice)
  rw [IntKind.wrap_u16]
  refine (put16_any _ ys p (v % 65536) _ (by omega) hO2.rd hv2).mono ?_
  rintro e w3 ⟨a3, rfl, hO3, hb3⟩
  have hO2' := hO2.below hb3 (Nat.le_refl _)
  go_wp2_with fail
  refine (put32_any _ ys p v _ (by omega) hO2'.rd hv).mono ?_
  rintro e w4 ⟨a4, rfl, hO4, hb4⟩
  have hO2'' := hO2'.below hb4 (Nat.le_refl _)
  have hO3' := hO3.below hb4 (Nat.le_refl _)
  have hbw : Below w1.heap.size w1 w4 := (hb2.trans (hb3.mono hb2.size)).trans (hb4.mono (Nat.le_trans hb2.size hb3.size))
  have hI4 := (hI2.below hbw).mono hbw.size
  clear hO2 hO2' hO3 hb2 hb3 hb4
  go_wp2_with fail
  have q0 : ∀ w', Below w4.heap.size w4 w' → (convert 22 9 (.slice a2 ys.length cap2)).run Try.prog w' = .ok (.string (strOfNums ys)) w' := fun w' h => conv_rd 22 9 5 Try.underlying22 Try.underlying5 Try.underlying9 (hO2''.rd.below h)
  have q1 : ∀ w', Below w4.heap.size w4 w' → (convert 22 9 (.slice a1 ys.length cap1)).run Try.prog w' = .ok (.string (strOfNums ys)) w' := fun w' h => conv_rd 22 9 5 Try.underlying22 Try.underlying5 Try.underlying9 (hI4.below h)
  have q2 : ∀ w', Below w4.heap.size w4 w' → (convert 22 9 (.slice a3 ys.length ys.length)).run Try.prog w' = .ok (.string (strOfNums (putAt2 ys p (v % 65536)))) w' := fun w' h => conv_rd 22 9 5 Try.underlying22 Try.underlying5 Try.underlying9 (hO3'.rd.below h)
  have q3 : ∀ w', Below w4.heap.size w4 w' → (convert 22 9 (.slice a4 ys.length ys.length)).run Try.prog w' = .ok (.string (strOfNums (putAt4 ys p v))) w' := fun w' h => conv_rd 22 9 5 Try.underlying22 Try.underlying5 Try.underlying9 (hO4.rd.below h)
  have d0 := below_draw (Below.refl w4.heap.size w4) 1
  have e16 : IntKind.u16.wrap v = v % 65536 := IntKind.wrap_u16 v
  clear hO2'' hO3' hO4
  go_region_held (fun w' => Below w4.heap.size w4 w') (first | assumption | exact d0)
    (first
      | (go_at_call 19; refine (rput16_any _ ys p (v % 65536) hp (by omega) _ ((hI4.below (by assumption)).mono (Below.size (by assumption))) hv2).mono ?_; rintro e w5 ⟨r5, rfl, hO5, hb5⟩; have hb5' := d0.trans (hb5.mono d0.size); have q5 := conv_rd 22 9 5 Try.underlying22 Try.underlying5 Try.underlying9 hO5.rd; clear hO5 hb5)
      | (go_at_call 20; refine (rput32_any _ ys p v hp (by omega) _ ((hI4.below hb5').mono hb5'.size) hv).mono ?_; rintro e w6 ⟨r6, rfl, hO6, hb6⟩; have hb6' := hb5'.trans (hb6.mono hb5'.size); have q6 := conv_rd 22 9 5 Try.underlying22 Try.underlying5 Try.underlying9 hO6.rd; clear hO6 hb6))
  have hI6 := (hI4.below hb6').mono hb6'.size
  have hbz := hbw.trans (hb6'.mono hbw.size)
  clear q0 q1 q2 q3 q5 q6 hI4 hI2 hbw hb5' hb6' d0 e16
  go_wp2_with fail
  refine (live_any _).mono ?_
  rintro e w7 ⟨rfl, hb7⟩
  have hI7 := (hI6.below hb7).mono hb7.size
  go_wp2_with fail
  refine (get16_at _ ys hB2 p _ hI7).mono ?_
  rintro e w8 ⟨rfl, n8, rfl⟩
  go_wp2_with fail
  refine (rget16_at _ ys hB2 p hp (by omega) _ (hI7.drew n8)).mono ?_
  rintro e w9 ⟨rfl, n9, rfl⟩
  go_wp2_with fail
  refine (get32_at _ ys hB2 p _ (hI7.drew (n8 + n9))).mono ?_
  rintro e w10 ⟨rfl, n10, rfl⟩
  go_wp2_with fail
  refine (rget32_at _ ys hB2 p hp (by omega) _ (hI7.drew (n8 + n9 + n10))).mono ?_
  rintro e w11 ⟨rfl, n11, rfl⟩
  go_wp2
  go_ret
  exact ⟨rfl, below_draw (hbz.trans (hb7.mono hbz.size)) _⟩
end Go.Proofs.Ytiigmhddnaocoaa
