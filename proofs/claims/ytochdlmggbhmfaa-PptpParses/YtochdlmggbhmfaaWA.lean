/- The document's answers for four bytes got, and for words put. -/
import Derived.Test.YtochdlmggbhmfaaW9
namespace Go.Proofs.Ytochdlmggbhmfaa
open Go.RowKit Go.Shelf
set_option maxRecDepth 100000

set_option maxHeartbeats 1000000 in
theorem rget32_at {n₀ : Nat} (sv : Value) (zs : List Int) (hB : Mt.By zs) (p : Int) (hp : -9223372036854775808 ≤ p ∧ p ≤ 9223372036854775807) (hl : zs.length ≤ 140737488355328) (w : World) (hI : Rd n₀ w sv zs) :
    Calls Try.prog 24 #[sv, .int .i64 p] w fun e w' => e = .returned (.int .u32 (getAt4 zs p)) ∧ ∃ n, w' = w.drewN n := by
  obtain ⟨a, cap, rfl, h1, h2⟩ := hI.slice
  by_cases h : 0 ≤ p ∧ p + 4 ≤ zs.length
  · obtain ⟨n, rfl⟩ := Int.eq_ofNat_of_zero_le h.1
    have HG : Hid (getAt4 zs (n : Int) = wat zs n * 65536 + wat zs (n + 2)) := by show _ = _; unfold getAt4; rw [if_pos h, Int.toNat_natCast]; rfl
    have HG1 : Hid (getAt2 zs (n : Int) = wat zs n) := by show _ = _; unfold getAt2; rw [if_pos (by omega), Int.toNat_natCast]
    have HG2 : Hid (getAt2 zs ((n : Int) + 2) = wat zs (n + 2)) := by show _ = _; unfold getAt2; rw [if_pos (by omega), show ((n : Int) + 2).toNat = n + 2 from by omega]
    have b0 := wat_bd hB n
    have b1 := wat_bd hB (n + 2)
    have t0 : ¬ (n : Int) < 0 := by omega
    have t1 : ¬ (zs.length : Int) < 4 := by omega
    have t2 : ¬ (zs.length : Int) - 4 < n := by omega
    have hn : (n : Int) + 2 ≤ 9223372036854775807 := by omega
    clear h hp
    go_enter Try.func24, Try.ntmps24
    go_wp2_with fail
    refine (rget16_at _ zs hB n (by omega) hl _ hI).mono ?_
    rintro e w2 ⟨rfl, q, rfl⟩
    rw [HG1.out]
    go_wp2_with fail
    refine (rget16_at _ zs hB ((n : Int) + 2) (by omega) hl _ (hI.drew q)).mono ?_
    rintro e w2 ⟨rfl, q2, rfl⟩
    rw [HG2.out]
    generalize wat zs n = x at *
    generalize wat zs (n + 2) = y at *
    go_wp2
    rw [or_join32 x y b0 b1]
    go_ret
    exact ⟨by rw [HG.out]; rfl, _, rfl⟩
  · have HG : Hid (getAt4 zs p = 0) := by show _ = _; unfold getAt4; rw [if_neg h]
    have ht : p < 0 ∨ (0 ≤ p ∧ (zs.length : Int) < 4) ∨ (0 ≤ p ∧ 4 ≤ (zs.length : Int) ∧ (zs.length : Int) - 4 < p) := by omega
    clear h
    rcases ht with t0 | ⟨t0, t1⟩ | ⟨t0, t1, t2⟩
    all_goals
      go_enter Try.func24, Try.ntmps24
      go_wp2
      go_ret
      exact ⟨by rw [HG.out]; rfl, 0, rfl⟩

set_option maxHeartbeats 1000000 in
theorem rput16_any (sv : Value) (zs : List Int) (p v : Int) (hp : -9223372036854775808 ≤ p ∧ p ≤ 9223372036854775807) (hl : zs.length ≤ 140737488355328) (w : World) (hI : Rd w.heap.size w sv zs) (hv : 0 ≤ v ∧ v ≤ 65535) :
    Calls Try.prog 26 #[sv, .int .i64 p, .int .u16 v] w fun e w' => ∃ r, e = .returned r ∧ Ow w.heap.size w' r (putAt2 zs p v) ∧ Below w.heap.size w w' := by
  obtain ⟨i0, hi, hz0, hz1, hz2⟩ := info_parts info_u8
  obtain ⟨a, cap, rfl, h1, h2⟩ := hI.slice
  by_cases h : 0 ≤ p ∧ p + 2 ≤ zs.length
  · obtain ⟨n, rfl⟩ := Int.eq_ofNat_of_zero_le h.1
    have HP : Hid (putAt2 zs (n : Int) v = Mt.put2 zs n v) := by show _ = _; unfold putAt2; rw [if_pos h, Int.toNat_natCast]
    have t0 : (0 : Int) ≤ n := by omega
    have t1 : 2 ≤ (zs.length : Int) := by omega
    have t2 : (n : Int) ≤ (zs.length : Int) - 2 := by omega
    have k1 : n + 1 < zs.length := by omega
    have i1 : (n : Int) < zs.length := by omega
    have i2 : (n : Int) + 1 < zs.length := by omega
    clear h hp
    go_enter Try.func26, Try.ntmps26
    go_wp2_with (at_builtin; refine wpList_app _ rfl (.tmp 8) (.tmp 9) 22 rfl w.heap.size 5 i0 Try.underlying22 hi hz0 hz1 hz2 _ [] rfl (World.ownsRow_nil _ _ _ _) w.heap.size _ zs rfl hI (by simp; omega) (by simp) ?_; intro v2 w2 hown2 hg2; have hb2 := (Below.refl w.heap.size w).grown hg2 (by simp) (fun k e => by cases e); clear hg2; have hO2 := Ow.of_row hown2; clear hown2; simp only [List.nil_append] at hO2; obtain ⟨a2, cap2, rfl, hl2, hm2⟩ := hO2.slice; obtain ⟨g, rfl, _, hg, hcf, hset⟩ := hO2.at (by omega); obtain ⟨c0, f0⟩ := hcf n (by omega); obtain ⟨c1, f1⟩ := hcf (n + 1) k1; clear hcf)
    go_ret
    have hs1 := hset n (v / 256) (by omega)
    obtain ⟨g', hg1, _, _, _, hset2⟩ := hs1.at (by simp; omega)
    cases hg1
    refine ⟨_, rfl, ?_, (hb2.setCell (p := ⟨g, n, none⟩) hg _).setCell (p := ⟨g, n + 1, none⟩) hg _⟩
    rw [HP.out]
    have := hset2 (n + 1) (v % 256) (by simpa using k1)
    simpa [Mt.put2] using this
  · have HP : Hid (putAt2 zs p v = zs) := by show _ = _; unfold putAt2; rw [if_neg h]
    have ht : p < 0 ∨ (0 ≤ p ∧ (zs.length : Int) < 2) ∨ (0 ≤ p ∧ 2 ≤ (zs.length : Int) ∧ (zs.length : Int) - 2 < p) := by omega
    clear h
    rcases ht with t0 | ⟨t0, t1⟩ | ⟨t0, t1, t2⟩
    all_goals
      go_enter Try.func26, Try.ntmps26
      go_wp2_with (at_builtin; refine wpList_app _ rfl (.tmp 8) (.tmp 9) 22 rfl w.heap.size 5 i0 Try.underlying22 hi hz0 hz1 hz2 _ [] rfl (World.ownsRow_nil _ _ _ _) w.heap.size _ zs rfl hI (by simp; omega) (by simp) ?_; intro v2 w2 hown2 hg2; have hb2 := (Below.refl w.heap.size w).grown hg2 (by simp) (fun k e => by cases e); clear hg2; have hO2 := Ow.of_row hown2; clear hown2; simp only [List.nil_append] at hO2)
      go_ret
      exact ⟨_, rfl, by rw [HP.out]; exact hO2, hb2⟩

end Go.Proofs.Ytochdlmggbhmfaa