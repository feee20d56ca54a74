/- Several texts in one. -/
import Derived.Test.YtojoaidnkljcpaaDoorX6
import Derived.Test.YtojoaidnkljcpaaDoorX2
import Derived.Test.YtojoaidnkljcpaaDoorX4
import Derived.Test.YtojoaidnkljcpaaDoorX1
/- The document's read of bytes. -/
namespace Go.Proofs.YtojoaidnkljcpaaDoor
open Go.RowKit Go.Shelf
set_option maxRecDepth 100000
set_option linter.unusedVariables false
set_option linter.unusedSimpArgs false

theorem rget16_rd {n₀ : Nat} (sv : Value) (zs : List Int) (hB : Mt.By zs) (p : Nat) (h : p + 1 < zs.length) (hl : zs.length ≤ 140737488355328) (w : World) (hI : Rd n₀ w sv zs) :
    Calls Tryd.prog 53 #[sv, .int .i64 p] w fun e w' => e = .returned (.int .u16 (wat zs p)) ∧ Later w w' := by
  refine (rget16_at sv zs hB p (by omega) hl w hI).mono ?_
  rintro e w' ⟨rfl, q, rfl⟩
  refine ⟨?_, below_draw (Later.refl w) q⟩
  unfold getAt2
  rw [if_pos (by omega), Int.toNat_natCast]
theorem rget32_rd {n₀ : Nat} (sv : Value) (zs : List Int) (hB : Mt.By zs) (p : Nat) (h : p + 3 < zs.length) (hl : zs.length ≤ 140737488355328) (w : World) (hI : Rd n₀ w sv zs) :
    Calls Tryd.prog 54 #[sv, .int .i64 p] w fun e w' => e = .returned (.int .u32 (wat4 zs p)) ∧ Later w w' := by
  refine (rget32_at sv zs hB p (by omega) hl w hI).mono ?_
  rintro e w' ⟨rfl, q, rfl⟩
  refine ⟨?_, below_draw (Later.refl w) q⟩
  unfold getAt4
  rw [if_pos (by omega), Int.toNat_natCast]

theorem res_rread (tm : Array Value) (pb : Nat) (c : Int) (v0 v1 v2 v3 v4 v5 v6 v7 v8 : Value) (w : World) (h4 : tm[4]? = some (.pointer (some ⟨pb, 0, none⟩))) (h5 : tm[5]? = some (.int .i64 c))
    (hp : w.heap[pb]? = some (.cells #[v0, v1, v2, v3, v4, v5, v6, v7, v8] 26 (0, 0))) :
    (results Tryd.f78 tm).run Tryd.prog w = .ok (.tuple #[.agg #[v0, v1, v2, v3, v4, v5, v6, v7, v8], .int .i64 c]) w := by
  have kP := block_cell hp
  simp [results, Tryd.results78, go_sem, h4, h5, kP]

theorem rexit {R : Ending → World → Prop} (tm : Array Value) (pb : Nat) (c : Int) (V : World) (h4 : tm[4]? = some (.pointer (some ⟨pb, 0, none⟩))) (h5 : tm[5]? = some (.int .i64 c)) (hV : V.heap[pb]? = some (.cells zc.toArray 26 (0, 0)))
    (hR : R (.returned (.tuple #[.agg zc.toArray, .int .i64 c])) V) : bodyPost Tryd.prog Tryd.f78 R .ret { tmps := tm, defers := [] } V :=
  bodyPost_ret (res_rread tm pb c _ _ _ _ _ _ _ _ _ V h4 h5 hV) rfl hR

set_option maxHeartbeats 8000000 in
theorem rread_any (q : Bool) (sv : Value) (zs : List Int) (w : World) (hB : Mt.By zs) (hl : zs.length ≤ 140737488355328) (hI : Rd w.heap.size w sv zs) :
    Calls Tryd.prog 78 #[sv, .bool q] w fun e w' => Below w.heap.size w w' ∧
      ((rde q zs ≠ 0 ∧ e = .returned (.tuple #[.agg zc.toArray, .int .i64 (rde q zs)])) ∨
       (rde q zs = 0 ∧ ∃ so sd, e = .returned (.tuple #[pkt zs so sd, .int .i64 0]) ∧ Ow w.heap.size w' so ((zs.take (hl4 zs).toNat).drop 20) ∧ Ow w.heap.size w' sd ((zs.take (ral q zs).toNat).drop (hl4 zs).toNat))) := by
  obtain ⟨i0, hi, hz0, hz1, hz2⟩ := info_parts info_u8
  obtain ⟨a, cap, rfl, hl1, hm1⟩ := hI.slice
  have hb1 : Below w.heap.size w (w.alloc (.cells zc.toArray 26)) := (Below.refl _ _).alloc (Nat.le_refl _) _
  have p1 := heap_alloc_new w (.cells zc.toArray 26)
  have s1 : (w.alloc (.cells zc.toArray 26)).heap.size = w.heap.size + 1 := by simp
  have HM : Hid (rde q zs = if msr zs ≠ 0 then msr zs else if (zs.length : Int) < ral q zs then 3 else if chk zs ≠ 0 then chk zs else if q = true ∧ ral q zs - hl4 zs < 8 then 3 else 0) := rfl
  go_enter Tryd.func78, Tryd.ntmps78
  by_cases h1 : zs.length < 20
  · have t1 : (zs.length : Int) < 20 := by omega
    have HR : Hid (rde q zs = 3) := by show _ = _; unfold rde; rw [show msr zs = 3 from by unfold msr; rw [if_pos h1]]; rfl
    have P2 := block_cell p1
    have F2 := block_frozen p1
    go_wp2_with fail
    exact rexit _ w.heap.size 3 _ rfl rfl p1 ⟨hb1, .inl (by rw [HR.out]; exact ⟨by omega, rfl⟩)⟩

  have t1 : ¬ (zs.length : Int) < 20 := by omega
  obtain ⟨b, off, cap', e', _, _, hb, hc⟩ := hI.cells (by omega)
  cases e'
  have d0 : (w.alloc (.cells zc.toArray 26)).cell? ⟨b, off, none⟩ = some (.int .u8 (zs[0]?.getD 0)) := (hb1.cell (p := ⟨b, off, none⟩) hb).trans (by have := hc 0 (by omega); rwa [Nat.add_zero] at this)
  have b0 := hB.at 0
  have hlz : (0 : Int) < zs.length := by omega
  by_cases h2 : zs[0]?.getD 0 / 16 ≠ 4
  · have t2 : (zs[0]?.getD 0 / 16 != 4) = true := by simpa using h2
    have HR : Hid (rde q zs = 6) := by show _ = _; unfold rde; rw [show msr zs = 6 from by unfold msr; rw [if_neg h1, if_pos h2]]; rfl
    have P2 := block_cell p1
    have F2 := block_frozen p1
    go_wp2_with fail
    exact rexit _ w.heap.size 6 _ rfl rfl p1 ⟨hb1, .inl (by rw [HR.out]; exact ⟨by omega, rfl⟩)⟩

  have t2 : (zs[0]?.getD 0 / 16 != 4) = false := by simpa using h2
  have HH : hl4 zs = zs[0]?.getD 0 % 16 * 4 := rfl
  have hh := hl4_bd hB
  by_cases h3 : hl4 zs < 20
  · have t3 : zs[0]?.getD 0 % 16 * 4 < 20 := by rw [← HH]; exact h3
    have HR : Hid (rde q zs = 4) := by show _ = _; unfold rde; rw [show msr zs = 4 from by unfold msr; rw [if_neg h1, if_neg h2, if_pos h3]]; rfl
    have P2 := block_cell p1
    have F2 := block_frozen p1
    go_wp2_with fail
    exact rexit _ w.heap.size 4 _ rfl rfl p1 ⟨hb1, .inl (by rw [HR.out]; exact ⟨by omega, rfl⟩)⟩

  have t3 : ¬ zs[0]?.getD 0 % 16 * 4 < 20 := by rw [← HH]; exact h3
  by_cases h4 : (zs.length : Int) < hl4 zs
  · have t4 : (zs.length : Int) < zs[0]?.getD 0 % 16 * 4 := by rw [← HH]; exact h4
    have HR : Hid (rde q zs = 3) := by show _ = _; unfold rde; rw [show msr zs = 3 from by unfold msr; rw [if_neg h1, if_neg h2, if_neg h3, if_pos h4]]; rfl
    have P2 := block_cell p1
    have F2 := block_frozen p1
    go_wp2_with fail
    exact rexit _ w.heap.size 3 _ rfl rfl p1 ⟨hb1, .inl (by rw [HR.out]; exact ⟨by omega, rfl⟩)⟩

  have t4 : ¬ (zs.length : Int) < zs[0]?.getD 0 % 16 * 4 := by rw [← HH]; exact h4
  go_wp2_with fail
  clear d0
  refine (rget16_rd _ zs hB 2 (by omega) hl _ ((hI.below hb1).mono (Nat.le_succ _))).mono ?_
  rintro e w2 ⟨rfl, hl2⟩
  obtain ⟨k, hk⟩ := Int.eq_ofNat_of_zero_le (show 0 ≤ zs[0]?.getD 0 % 16 * 4 by omega)
  have HK : Hid (hl4 zs = (k : Int)) := by show _ = _; rw [HH]; exact hk
  rw [hk] at t3 t4 ⊢
  have hkl : 20 ≤ k ∧ k ≤ zs.length := by omega
  have hkc : k ≤ cap := by omega
  have hn2 := wat_bd hB 2
  have z2 := hl2.size
  have HM2 : ∀ x, msr zs = x → Hid (msr zs = x) := fun _ h => h
  by_cases h5 : wat zs 2 < hl4 zs
  · have t5 : wat zs 2 < (k : Int) := by omega
    have HR : Hid (rde q zs = 4) := by show _ = _; unfold rde; rw [show msr zs = 4 from by unfold msr; rw [if_neg h1, if_neg h2, if_neg (by omega), if_neg (by omega), if_pos h5]]; rfl
    have pk := ((hl2).block w.heap.size (by omega)).trans p1
    have Pk := block_cell pk
    have Fk := block_frozen pk
    go_wp2_with fail
    clear Pk Fk
    generalize hV : ((((((((w2.setCell ⟨w.heap.size, 0, none⟩ _).setCell ⟨w.heap.size, 1, none⟩ _).setCell ⟨w.heap.size, 2, none⟩ _).setCell ⟨w.heap.size, 3, none⟩ _).setCell ⟨w.heap.size, 4, none⟩ _).setCell ⟨w.heap.size, 5, none⟩ _).setCell ⟨w.heap.size, 6, none⟩ _).setCell ⟨w.heap.size, 7, none⟩ _).setCell ⟨w.heap.size, 8, none⟩ _ = V
    have hV9 : V = putRow w2 w.heap.size 0 zc := hV.symm
    have hb8 : But (fun b => b = w.heap.size) w2 V := by rw [hV9]; exact putRow_but (E := fun b => b = w.heap.size) (n := w.heap.size) rfl _ _ _ _ (But.refl _ _)
    have p8 := putRow_all zc pk rfl
    rw [← hV9] at p8
    exact rexit _ w.heap.size 4 _ rfl rfl p8 ⟨(hb1.trans ((hl2).mono (by omega))).trans (hb8.below (Nat.le_trans (by omega) (hl2).size) (fun j h e => by omega)), .inl (by rw [HR.out]; exact ⟨by omega, rfl⟩)⟩

  have t5 : ¬ wat zs 2 < (k : Int) := by omega
  have hm0 : Hid (msr zs = 0) := by show _ = _; unfold msr; rw [if_neg h1, if_neg h2, if_neg (by omega), if_neg (by omega), if_neg (by omega)]
  cases q
  · by_cases h6 : (zs.length : Int) < wat zs 2
    · have HR : Hid (rde false zs = 3) := by show _ = _; unfold rde; rw [hm0.out, if_neg (by simp), if_pos (by simpa [ral] using h6)]
      have pk := ((hl2).block w.heap.size (by omega)).trans p1
      have Pk := block_cell pk
      have Fk := block_frozen pk
      go_wp2_with fail
      clear Pk Fk
      generalize hV : ((((((((w2.setCell ⟨w.heap.size, 0, none⟩ _).setCell ⟨w.heap.size, 1, none⟩ _).setCell ⟨w.heap.size, 2, none⟩ _).setCell ⟨w.heap.size, 3, none⟩ _).setCell ⟨w.heap.size, 4, none⟩ _).setCell ⟨w.heap.size, 5, none⟩ _).setCell ⟨w.heap.size, 6, none⟩ _).setCell ⟨w.heap.size, 7, none⟩ _).setCell ⟨w.heap.size, 8, none⟩ _ = V
      have hV9 : V = putRow w2 w.heap.size 0 zc := hV.symm
      have hb8 : But (fun b => b = w.heap.size) w2 V := by rw [hV9]; exact putRow_but (E := fun b => b = w.heap.size) (n := w.heap.size) rfl _ _ _ _ (But.refl _ _)
      have p8 := putRow_all zc pk rfl
      rw [← hV9] at p8
      exact rexit _ w.heap.size 3 _ rfl rfl p8 ⟨(hb1.trans ((hl2).mono (by omega))).trans (hb8.below (Nat.le_trans (by omega) (hl2).size) (fun j h e => by omega)), .inl (by rw [HR.out]; exact ⟨by omega, rfl⟩)⟩

    go_wp2_with fail
    refine (rgood_any _ (zs.take k) (hB.take _) (by simp; omega) w2 (((hI.take k (by omega)).below (hb1.trans (hl2.mono (by omega)))).mono (by omega))).mono ?_
    rintro e w3 ⟨rfl, hl3⟩
    have hL3 : Later _ w3 := hl2.trans hl3
    have z3 := hL3.size
    cases hg : (Mt.cks (zs.take k) == 0)
    · have hc5 : chk zs = 5 := by unfold chk; rw [HK.out, Int.toNat_natCast, if_pos (by simpa using hg)]
      have HR : Hid (rde false zs = 5) := by show _ = _; unfold rde; rw [hm0.out, if_neg (by simp), if_neg (by simp [ral]; omega), hc5]; rfl
      clear hc5
      have pk := ((hL3).block w.heap.size (by omega)).trans p1
      have Pk := block_cell pk
      have Fk := block_frozen pk
      go_wp2_with fail
      clear Pk Fk
      generalize hV : ((((((((w3.setCell ⟨w.heap.size, 0, none⟩ _).setCell ⟨w.heap.size, 1, none⟩ _).setCell ⟨w.heap.size, 2, none⟩ _).setCell ⟨w.heap.size, 3, none⟩ _).setCell ⟨w.heap.size, 4, none⟩ _).setCell ⟨w.heap.size, 5, none⟩ _).setCell ⟨w.heap.size, 6, none⟩ _).setCell ⟨w.heap.size, 7, none⟩ _).setCell ⟨w.heap.size, 8, none⟩ _ = V
      have hV9 : V = putRow w3 w.heap.size 0 zc := hV.symm
      have hb8 : But (fun b => b = w.heap.size) w3 V := by rw [hV9]; exact putRow_but (E := fun b => b = w.heap.size) (n := w.heap.size) rfl _ _ _ _ (But.refl _ _)
      have p8 := putRow_all zc pk rfl
      rw [← hV9] at p8
      exact rexit _ w.heap.size 5 _ rfl rfl p8 ⟨(hb1.trans ((hL3).mono (by omega))).trans (hb8.below (Nat.le_trans (by omega) (hL3).size) (fun j h e => by omega)), .inl (by rw [HR.out]; exact ⟨by omega, rfl⟩)⟩

    have hg0 : Mt.cks (zs.take k) = 0 := by simpa using hg
    have Hg := hide hg0
    clear hg hg0
    go_wp2_with fail
    refine (rget16_rd _ zs hB 6 (by omega) hl w3 (hI.below (hb1.trans (hL3.mono (by omega))))).mono ?_
    rintro e w4 ⟨rfl, hl4'⟩
    have hL4 : Later _ w4 := hL3.trans hl4'
    have z4 := hL4.size
    have hff := wat_bd hB 6
    by_cases h7 : wat zs 6 % 16384 ≠ 0
    · have t7 : (wat zs 6 % 16384 != 0) = true := by simpa using h7
      have hc5 : chk zs = 7 := by unfold chk; rw [HK.out, Int.toNat_natCast, if_neg (by simp [Hg.out]), if_pos h7]
      have HR : Hid (rde false zs = 7) := by show _ = _; unfold rde; rw [hm0.out, if_neg (by simp), if_neg (by simp [ral]; omega), hc5]; rfl
      clear hc5
      have pk := ((hL4).block w.heap.size (by omega)).trans p1
      have Pk := block_cell pk
      have Fk := block_frozen pk
      go_wp2_with fail
      clear Pk Fk
      generalize hV : ((((((((w4.setCell ⟨w.heap.size, 0, none⟩ _).setCell ⟨w.heap.size, 1, none⟩ _).setCell ⟨w.heap.size, 2, none⟩ _).setCell ⟨w.heap.size, 3, none⟩ _).setCell ⟨w.heap.size, 4, none⟩ _).setCell ⟨w.heap.size, 5, none⟩ _).setCell ⟨w.heap.size, 6, none⟩ _).setCell ⟨w.heap.size, 7, none⟩ _).setCell ⟨w.heap.size, 8, none⟩ _ = V
      have hV9 : V = putRow w4 w.heap.size 0 zc := hV.symm
      have hb8 : But (fun b => b = w.heap.size) w4 V := by rw [hV9]; exact putRow_but (E := fun b => b = w.heap.size) (n := w.heap.size) rfl _ _ _ _ (But.refl _ _)
      have p8 := putRow_all zc pk rfl
      rw [← hV9] at p8
      exact rexit _ w.heap.size 7 _ rfl rfl p8 ⟨(hb1.trans ((hL4).mono (by omega))).trans (hb8.below (Nat.le_trans (by omega) (hL4).size) (fun j h e => by omega)), .inl (by rw [HR.out]; exact ⟨by omega, rfl⟩)⟩

    have t7 : (wat zs 6 % 16384 != 0) = false := by simpa using h7
    by_cases h8 : 32768 ≤ wat zs 6
    · have hc5 : chk zs = 4 := by unfold chk; rw [HK.out, Int.toNat_natCast, if_neg (by simp [Hg.out]), if_neg h7, if_pos h8]
      have HR : Hid (rde false zs = 4) := by show _ = _; unfold rde; rw [hm0.out, if_neg (by simp), if_neg (by simp [ral]; omega), hc5]; rfl
      clear hc5
      have pk := ((hL4).block w.heap.size (by omega)).trans p1
      have Pk := block_cell pk
      have Fk := block_frozen pk
      go_wp2_with fail
      clear Pk Fk
      generalize hV : ((((((((w4.setCell ⟨w.heap.size, 0, none⟩ _).setCell ⟨w.heap.size, 1, none⟩ _).setCell ⟨w.heap.size, 2, none⟩ _).setCell ⟨w.heap.size, 3, none⟩ _).setCell ⟨w.heap.size, 4, none⟩ _).setCell ⟨w.heap.size, 5, none⟩ _).setCell ⟨w.heap.size, 6, none⟩ _).setCell ⟨w.heap.size, 7, none⟩ _).setCell ⟨w.heap.size, 8, none⟩ _ = V
      have hV9 : V = putRow w4 w.heap.size 0 zc := hV.symm
      have hb8 : But (fun b => b = w.heap.size) w4 V := by rw [hV9]; exact putRow_but (E := fun b => b = w.heap.size) (n := w.heap.size) rfl _ _ _ _ (But.refl _ _)
      have p8 := putRow_all zc pk rfl
      rw [← hV9] at p8
      exact rexit _ w.heap.size 4 _ rfl rfl p8 ⟨(hb1.trans ((hL4).mono (by omega))).trans (hb8.below (Nat.le_trans (by omega) (hL4).size) (fun j h e => by omega)), .inl (by rw [HR.out]; exact ⟨by omega, rfl⟩)⟩

    have hc0 : Hid (chk zs = 0) := by show _ = _; unfold chk; rw [HK.out, Int.toNat_natCast, if_neg (by simp [Hg.out]), if_neg h7, if_neg h8]

    have HR : Hid (rde false zs = 0) := by show _ = _; unfold rde; rw [hm0.out, if_neg (by simp), if_neg (by simp [ral]; omega), hc0.out, if_neg (by simp), if_neg (by simp)]

    go_wp2_with fail
    obtain ⟨n, hn⟩ := Int.eq_ofNat_of_zero_le (show 0 ≤ wat zs 2 by omega)
    have hkn : 20 ≤ k ∧ k ≤ n ∧ n ≤ zs.length := by omega
    have HN : Hid (ral false zs = n) := by show _ = _; simp [ral]; omega
    have Hn := hide hn
    rw [hn]
    clear hn

    have d1 := hc 1 (by omega)
    have d8 := hc 8 (by omega)
    have d9 := hc 9 (by omega)
    have hbw4 := hb1.trans (hL4.mono (by omega))
    generalize gz1 : zs[1]?.getD 0 = z1 at *
    generalize gz8 : zs[8]?.getD 0 = z8 at *
    generalize gz9 : zs[9]?.getD 0 = z9 at *
    have G1 := hide gz1
    have G8 := hide gz8
    have G9 := hide gz9
    clear gz1 gz8 gz9
    have i1 : (1 : Int) < zs.length := by omega
    have i8 : (8 : Int) < zs.length := by omega
    have i9 : (9 : Int) < zs.length := by omega
    refine anyR_begin (R := KI w4.heap.size 26 9 (List.toArray [.int .u8 z1, .int .u16 (wat zs 4), .bool (decide (16384 ≤ wat zs 6)), .int .u8 z8, .int .u8 z9, .int .u32 (wat4 zs 12), .int .u32 (wat4 zs 16), .slice none 0 0, .slice none 0 0])) (KI.pre _ _ _ _) (fun w => KI.of (Later.drew w)) 20 rfl (by kernel_rfl) (fun W5 hW5 => ?_)
    have hbel : ∀ w1, KI w4.heap.size 26 9 (List.toArray [.int .u8 z1, .int .u16 (wat zs 4), .bool (decide (16384 ≤ wat zs 6)), .int .u8 z8, .int .u8 z9, .int .u32 (wat4 zs 12), .int .u32 (wat4 zs 16), .slice none 0 0, .slice none 0 0]) W5 w1 → Below w.heap.size w w1 := fun w1 h => hbw4.trans (((hW5.trans h).1.below (Nat.le_refl _) (fun k hk e => by omega)).mono (by omega))
    have hr1 : ∀ w1, KI w4.heap.size 26 9 (List.toArray [.int .u8 z1, .int .u16 (wat zs 4), .bool (decide (16384 ≤ wat zs 6)), .int .u8 z8, .int .u8 z9, .int .u32 (wat4 zs 12), .int .u32 (wat4 zs 16), .slice none 0 0, .slice none 0 0]) W5 w1 → Rd w.heap.size w1 (.slice (some ⟨b, off, none⟩) zs.length cap) zs := fun w1 h => hI.below (hbel w1 h)
    have e1 : ∀ w1, KI w4.heap.size 26 9 (List.toArray [.int .u8 z1, .int .u16 (wat zs 4), .bool (decide (16384 ≤ wat zs 6)), .int .u8 z8, .int .u8 z9, .int .u32 (wat4 zs 12), .int .u32 (wat4 zs 16), .slice none 0 0, .slice none 0 0]) W5 w1 → w1.cell? ⟨b, off + 1, none⟩ = some (.int .u8 z1) := fun w1 h => ((hbel w1 h).cell (p := ⟨b, off + 1, none⟩) hb).trans d1
    have e8 : ∀ w1, KI w4.heap.size 26 9 (List.toArray [.int .u8 z1, .int .u16 (wat zs 4), .bool (decide (16384 ≤ wat zs 6)), .int .u8 z8, .int .u8 z9, .int .u32 (wat4 zs 12), .int .u32 (wat4 zs 16), .slice none 0 0, .slice none 0 0]) W5 w1 → w1.cell? ⟨b, off + 8, none⟩ = some (.int .u8 z8) := fun w1 h => ((hbel w1 h).cell (p := ⟨b, off + 8, none⟩) hb).trans d8
    have e9 : ∀ w1, KI w4.heap.size 26 9 (List.toArray [.int .u8 z1, .int .u16 (wat zs 4), .bool (decide (16384 ≤ wat zs 6)), .int .u8 z8, .int .u8 z9, .int .u32 (wat4 zs 12), .int .u32 (wat4 zs 16), .slice none 0 0, .slice none 0 0]) W5 w1 → w1.cell? ⟨b, off + 9, none⟩ = some (.int .u8 z9) := fun w1 h => ((hbel w1 h).cell (p := ⟨b, off + 9, none⟩) hb).trans d9
    clear d1 d8 d9
    refine anyR_val (KI.pre _ _ _ _) 0 rfl (by kernel_rfl) (by kernel_rfl) (by kernel_rfl) (fun _ _ _ _ h => h) rfl ?_; apply Exists.intro; refine ⟨fun w1 hw1 => ?_, ?_⟩; (· (go_simp; rfl)); simp only [Act.put, List.setIfInBounds_toArray, List.set_cons_zero, List.set_cons_succ]
    refine anyR_val (KI.pre _ _ _ _) 1 rfl (by kernel_rfl) (by kernel_rfl) (by kernel_rfl) (fun _ _ _ _ h => h) rfl ?_; apply Exists.intro; refine ⟨fun w1 hw1 => ?_, ?_⟩; (· (go_simp; rfl)); simp only [Act.put, List.setIfInBounds_toArray, List.set_cons_zero, List.set_cons_succ]
    refine anyR_val (KI.pre _ _ _ _) 2 rfl (by kernel_rfl) (by kernel_rfl) (by kernel_rfl) (fun _ _ _ _ h => h) rfl ?_; apply Exists.intro; refine ⟨fun w1 hw1 => ?_, ?_⟩; (· (go_simp; rfl)); simp only [Act.put, List.setIfInBounds_toArray, List.set_cons_zero, List.set_cons_succ]
    refine anyR_val (KI.pre _ _ _ _) 3 rfl (by kernel_rfl) (by kernel_rfl) (by kernel_rfl) (fun _ _ _ _ h => h) rfl ?_; apply Exists.intro; refine ⟨fun w1 hw1 => ?_, ?_⟩; (· (go_simp; rfl)); simp only [Act.put, List.setIfInBounds_toArray, List.set_cons_zero, List.set_cons_succ]
    refine anyR_take (KI.pre _ _ _ _) 4 (.int .u16 (wat zs 4)) rfl (by kernel_rfl) (by kernel_rfl) (by kernel_rfl) (fun _ _ _ h => h) rfl (fun w1 hw1 => goes_call 53 #[.slice (some ⟨b, off, none⟩) zs.length cap, .int .i64 4] (by go_simp) ?_) ?_
    · exact (rget16_rd _ zs hB 4 (by omega) hl w1 (hr1 w1 hw1)).mono fun e w' ⟨he, hw⟩ => ⟨he, KI.of hw⟩
    simp only [Act.put, List.setIfInBounds_toArray, List.set_cons_zero, List.set_cons_succ]
    refine anyR_val (KI.pre _ _ _ _) 5 rfl (by kernel_rfl) (by kernel_rfl) (by kernel_rfl) (fun _ _ _ _ h => h) rfl ?_; apply Exists.intro; refine ⟨fun w1 hw1 => ?_, ?_⟩; (· (go_simp; rfl)); simp only [Act.put, List.setIfInBounds_toArray, List.set_cons_zero, List.set_cons_succ]
    refine anyR_val (KI.pre _ _ _ _) 6 rfl (by kernel_rfl) (by kernel_rfl) (by kernel_rfl) (fun _ _ _ _ h => h) rfl ?_; apply Exists.intro; refine ⟨fun w1 hw1 => ?_, ?_⟩; (· (go_simp; rfl)); simp only [Act.put, List.setIfInBounds_toArray, List.set_cons_zero, List.set_cons_succ]
    refine anyR_val (KI.pre _ _ _ _) 7 rfl (by kernel_rfl) (by kernel_rfl) (by kernel_rfl) (fun _ _ _ _ h => h) rfl ?_; apply Exists.intro; refine ⟨fun w1 hw1 => ?_, ?_⟩; (· (go_simp; rfl)); simp only [Act.put, List.setIfInBounds_toArray, List.set_cons_zero, List.set_cons_succ]
    refine anyR_val (KI.pre _ _ _ _) 8 rfl (by kernel_rfl) (by kernel_rfl) (by kernel_rfl) (fun _ _ _ _ h => h) rfl ?_; apply Exists.intro; refine ⟨fun w1 hw1 => ?_, ?_⟩; (· (go_simp; rfl)); simp only [Act.put, List.setIfInBounds_toArray, List.set_cons_zero, List.set_cons_succ]
    refine anyR_val (KI.pre _ _ _ _) 9 rfl (by kernel_rfl) (by kernel_rfl) (by kernel_rfl) (fun _ _ _ _ h => h) rfl ?_; apply Exists.intro; refine ⟨fun w1 hw1 => ?_, ?_⟩; (· (go_simp; rfl)); simp only [Act.put, List.setIfInBounds_toArray, List.set_cons_zero, List.set_cons_succ]
    refine anyR_val (KI.pre _ _ _ _) 10 rfl (by kernel_rfl) (by kernel_rfl) (by kernel_rfl) (fun _ _ _ _ h => h) rfl ?_; apply Exists.intro; refine ⟨fun w1 hw1 => ?_, ?_⟩; (· (go_simp; rfl)); simp only [Act.put, List.setIfInBounds_toArray, List.set_cons_zero, List.set_cons_succ]
    refine anyR_val (KI.pre _ _ _ _) 11 rfl (by kernel_rfl) (by kernel_rfl) (by kernel_rfl) (fun _ _ _ _ h => h) rfl ?_; apply Exists.intro; refine ⟨fun w1 hw1 => ?_, ?_⟩; (· (go_simp; rfl)); simp only [Act.put, List.setIfInBounds_toArray, List.set_cons_zero, List.set_cons_succ]
    refine anyR_val (KI.pre _ _ _ _) 12 rfl (by kernel_rfl) (by kernel_rfl) (by kernel_rfl) (fun _ _ _ _ h => h) rfl ?_; apply Exists.intro; refine ⟨fun w1 hw1 => ?_, ?_⟩; (· (go_simp; rfl)); simp only [Act.put, List.setIfInBounds_toArray, List.set_cons_zero, List.set_cons_succ]
    refine anyR_val (KI.pre _ _ _ _) 13 rfl (by kernel_rfl) (by kernel_rfl) (by kernel_rfl) (fun _ _ _ _ h => h) rfl ?_; apply Exists.intro; refine ⟨fun w1 hw1 => ?_, ?_⟩; (· (go_simp; rfl)); simp only [Act.put, List.setIfInBounds_toArray, List.set_cons_zero, List.set_cons_succ]
    refine anyR_take (KI.pre _ _ _ _) 14 (.int .u32 (wat4 zs 12)) rfl (by kernel_rfl) (by kernel_rfl) (by kernel_rfl) (fun _ _ _ h => h) rfl (fun w1 hw1 => goes_call 54 #[.slice (some ⟨b, off, none⟩) zs.length cap, .int .i64 12] (by go_simp) ?_) ?_
    · exact (rget32_rd _ zs hB 12 (by omega) hl w1 (hr1 w1 hw1)).mono fun e w' ⟨he, hw⟩ => ⟨he, KI.of hw⟩
    simp only [Act.put, List.setIfInBounds_toArray, List.set_cons_zero, List.set_cons_succ]
    refine anyR_val (KI.pre _ _ _ _) 15 rfl (by kernel_rfl) (by kernel_rfl) (by kernel_rfl) (fun _ _ _ _ h => h) rfl ?_; apply Exists.intro; refine ⟨fun w1 hw1 => ?_, ?_⟩; (· (go_simp; rfl)); simp only [Act.put, List.setIfInBounds_toArray, List.set_cons_zero, List.set_cons_succ]
    refine anyR_take (KI.pre _ _ _ _) 16 (.int .u32 (wat4 zs 16)) rfl (by kernel_rfl) (by kernel_rfl) (by kernel_rfl) (fun _ _ _ h => h) rfl (fun w1 hw1 => goes_call 54 #[.slice (some ⟨b, off, none⟩) zs.length cap, .int .i64 16] (by go_simp) ?_) ?_
    · exact (rget32_rd _ zs hB 16 (by omega) hl w1 (hr1 w1 hw1)).mono fun e w' ⟨he, hw⟩ => ⟨he, KI.of hw⟩
    simp only [Act.put, List.setIfInBounds_toArray, List.set_cons_zero, List.set_cons_succ]
    refine anyR_val (KI.pre _ _ _ _) 17 rfl (by kernel_rfl) (by kernel_rfl) (by kernel_rfl) (fun _ _ _ _ h => h) rfl ?_; apply Exists.intro; refine ⟨fun w1 hw1 => ?_, ?_⟩; (· (go_simp; rfl)); simp only [Act.put, List.setIfInBounds_toArray, List.set_cons_zero, List.set_cons_succ]

    refine anyR_one 18 rfl (by kernel_rfl) rfl (fun W6 hW6 => ?_)
    have hs6 : w4.heap.size ≤ W6.heap.size := (hW5.trans hW6).1.size
    unfold Oper.wp
    go_simp
    refine ⟨KI.of ((Below.refl _ _).alloc (Nat.le_refl _) _), ?_⟩
    refine anyR_one 19 rfl (by kernel_rfl) rfl (fun W7 hW7 => ?_)
    have hwr : Wr W6.heap.size 9 26 W7 := hW7.2.1 _ ⟨_, heap_alloc_new W6 _, rfl⟩
    have hst := KI.store (n₁ := w4.heap.size) [.int .u8 z1, .int .u16 (wat zs 4), .bool (decide (16384 ≤ wat zs 6)), .int .u8 z8, .int .u8 z9, .int .u32 (wat4 zs 12), .int .u32 (wat4 zs 16), .slice none 0 0, .slice none 0 0] hs6 hwr rfl
    obtain ⟨cur, hcur, hsz⟩ := hwr
    have k7 := block_cell hcur
    have f7 := block_frozen hcur
    have HS := hide hst
    clear hst
    unfold Oper.wp
    go_simp
    generalize hV : ((((((((W7.setCell ⟨W6.heap.size, 0, none⟩ _).setCell ⟨W6.heap.size, 1, none⟩ _).setCell ⟨W6.heap.size, 2, none⟩ _).setCell ⟨W6.heap.size, 3, none⟩ _).setCell ⟨W6.heap.size, 4, none⟩ _).setCell ⟨W6.heap.size, 5, none⟩ _).setCell ⟨W6.heap.size, 6, none⟩ _).setCell ⟨W6.heap.size, 7, none⟩ _).setCell ⟨W6.heap.size, 8, none⟩ _ = V
    have hV9 : V = putRow W7 W6.heap.size 0 [.int .u8 z1, .int .u16 (wat zs 4), .bool (decide (16384 ≤ wat zs 6)), .int .u8 z8, .int .u8 z9, .int .u32 (wat4 zs 12), .int .u32 (wat4 zs 16), .slice none 0 0, .slice none 0 0] := hV.symm
    have hst := HS.out
    rw [← hV9] at hst
    clear hV hV9 HS k7 f7
    refine ⟨hst.1, anyR_done (by kernel_rfl) (fun W8 hW8 => ?_)⟩
    have p8 := hW8.2.2 _ hst.2
    have hwW8 : Below w.heap.size w W8 := hbel W8 (((hW6.trans (KI.of ((Below.refl _ _).alloc (Nat.le_refl _) _))).trans hW7).trans (hst.1.trans hW8))
    have hq8 : w.heap.size < W6.heap.size := by omega
    have pw8 : Wr w.heap.size 9 26 W8 := hW8.2.1 _ (hst.1.2.1 _ (hW7.2.1 _ ((KI.of ((Below.refl W6.heap.size W6).alloc (Nat.le_refl _) _) : KI w4.heap.size 26 9 (List.toArray [.int .u8 z1, .int .u16 (wat zs 4), .bool (decide (16384 ≤ wat zs 6)), .int .u8 z8, .int .u8 z9, .int .u32 (wat4 zs 12), .int .u32 (wat4 zs 16), .slice none 0 0, .slice none 0 0]) W6 _).2.1 _ (hW6.2.1 _ (hW5.2.1 _ ⟨_, (hL4.block w.heap.size (by omega)).trans p1, rfl⟩)))))
    generalize W6.heap.size = pb at *
    clear hbel hr1 e1 e8 e9 hst hW7 hW6 hs6 hcur hsz hW8
    have hs8 := (Array.getElem?_eq_some_iff.1 p8).1
    have P8 := block_cell p8
    go_wp2_with fail
    have hR8 := (((hI.below hwW8).take k (by omega)).cutAt 20 (by omega)).drew 1
    obtain ⟨v9, W9, hrun9, hown9, hgr9⟩ := run_app (P := Tryd.prog) W8.drew 24 24 5 (pb + 1) i0 Tryd.underlying24 hi hz0 hz1 hz2 (.slice none 0 0) [] (World.ownsRow_nil _ _ _ _) w.heap.size _ ((zs.take k).drop 20) hR8 (by simp; omega) hs8
    have hl9 : Later W8 W9 := Later.trans (Later.drew W8) ((Below.refl _ W8.drew).grown hgr9 (Nat.le_refl _) (fun _ e => by cases e))
    have hO9 := Ow.of_row hown9
    rw [List.nil_append] at hO9
    obtain ⟨a9, cap9, rfl, hq9, hm9⟩ := hO9.slice
    clear hown9 hgr9 hR8
    have p9 := (hl9.block pb hs8).trans p8
    have P9 := block_cell p9
    have F9 := block_frozen p9
    have hLo : Hid (((zs.take k).drop 20).length = k - 20) := by show _ = _; simp; omega
    rw [hLo.out] at hrun9 hO9
    have i20 : (20 : Int) ≤ k := by omega
    go_region_law (refine step_run rfl (.tmp 92) (.tmp 95) 24 rfl _ _ rfl rfl _ W9 hrun9 ?_)
    clear hrun9 P8 P9 F9
    generalize (if cap = 20 then some (⟨b, off, none⟩ : Addr) else some ⟨b, off + 20, none⟩) = ad20 at *
    have p10 : (W9.setCell ⟨pb, 7, none⟩ (.slice a9 (k - 20) cap9)).heap[pb]? = some (.cells (List.toArray [.int .u8 z1, .int .u16 (wat zs 4), .bool (decide (16384 ≤ wat zs 6)), .int .u8 z8, .int .u8 z9, .int .u32 (wat4 zs 12), .int .u32 (wat4 zs 16), .slice a9 (k - 20) cap9, .slice none 0 0]) 26 (0, 0)) := heap_set1 p9 7 (.slice a9 (k - 20) cap9)
    have hE9 : But (fun b => b = pb) W9 (W9.setCell ⟨pb, 7, none⟩ (.slice a9 (k - 20) cap9)) := (But.refl (fun b => b = pb) W9).setCell (p := ⟨pb, 7, none⟩) (E := fun b => b = pb) rfl _
    have hO10 := hO9.but hE9 (fun b h e => by omega)
    have hw10 : Below w.heap.size w _ := (hwW8.trans (hl9.mono hwW8.size)).setCell (p := ⟨pb, 7, none⟩) (Nat.le_of_lt hq8) (.slice a9 (k - 20) cap9)
    have pw10 : Wr w.heap.size 9 26 (W9.setCell ⟨pb, 7, none⟩ (.slice a9 (k - 20) cap9)) := by
      obtain ⟨c, h1, h2⟩ := pw8.later hl9
      exact ⟨c, (hE9.block _ (Array.getElem?_eq_some_iff.1 h1).1 (by omega)).trans h1, h2⟩
    generalize W9.setCell ⟨pb, 7, none⟩ (.slice a9 (k - 20) cap9) = W10 at *
    clear hO9 p9 hE9 hl9 hwW8 pw8
    have hs10 := (Array.getElem?_eq_some_iff.1 p10).1
    have P10 := block_cell p10
    go_wp2_with fail
    have hR10 := (((hI.below hw10).take n (by omega)).cutAt k (by omega)).drew 1
    obtain ⟨v11, W11, hrun11, hown11, hgr11⟩ := run_app (P := Tryd.prog) W10.drew 24 24 5 (pb + 1) i0 Tryd.underlying24 hi hz0 hz1 hz2 (.slice none 0 0) [] (World.ownsRow_nil _ _ _ _) w.heap.size _ ((zs.take n).drop k) hR10 (by simp; omega) hs10
    have hl11 : Later W10 W11 := Later.trans (Later.drew W10) ((Below.refl _ W10.drew).grown hgr11 (Nat.le_refl _) (fun _ e => by cases e))
    have hO11 := Ow.of_row hown11
    rw [List.nil_append] at hO11
    obtain ⟨a11, cap11, rfl, hq11, hm11⟩ := hO11.slice
    clear hown11 hgr11 hR10
    have p11 := (hl11.block pb hs10).trans p10
    have P11 := block_cell p11
    have F11 := block_frozen p11
    have hLd : Hid (((zs.take n).drop k).length = n - k) := by show _ = _; simp; try omega
    rw [hLd.out] at hrun11 hO11
    have ikn : (k : Int) ≤ n := by omega
    have inc : n ≤ cap := by omega
    have inc2 : (n : Int) ≤ cap := by omega
    go_region_law (refine step_run rfl (.tmp 99) (.tmp 103) 24 rfl _ _ rfl rfl _ W11 hrun11 ?_)
    clear hrun11 P10 P11 F11
    generalize (if cap = k then some (⟨b, off, none⟩ : Addr) else some ⟨b, off + k, none⟩) = adk at *
    have p12 : (W11.setCell ⟨pb, 8, none⟩ (.slice a11 (n - k) cap11)).heap[pb]? = some (.cells (List.toArray [.int .u8 z1, .int .u16 (wat zs 4), .bool (decide (16384 ≤ wat zs 6)), .int .u8 z8, .int .u8 z9, .int .u32 (wat4 zs 12), .int .u32 (wat4 zs 16), .slice a9 (k - 20) cap9, .slice a11 (n - k) cap11]) 26 (0, 0)) := heap_set1 p11 8 (.slice a11 (n - k) cap11)
    have hE11 : But (fun b => b = pb) W11 (W11.setCell ⟨pb, 8, none⟩ (.slice a11 (n - k) cap11)) := (But.refl (fun b => b = pb) W11).setCell (p := ⟨pb, 8, none⟩) (E := fun b => b = pb) rfl _
    have hO12 := hO11.but hE11 (fun b h e => by omega)
    have hO13 := (hO10.below hl11 (Nat.le_refl _)).but hE11 (fun b h e => by omega)
    have hw12 : Below w.heap.size w _ := (hw10.trans (hl11.mono hw10.size)).setCell (p := ⟨pb, 8, none⟩) (Nat.le_of_lt hq8) (.slice a11 (n - k) cap11)
    have pw12 : Wr w.heap.size 9 26 (W11.setCell ⟨pb, 8, none⟩ (.slice a11 (n - k) cap11)) := by
      obtain ⟨c, h1, h2⟩ := pw10.later hl11
      exact ⟨c, (hE11.block _ (Array.getElem?_eq_some_iff.1 h1).1 (by omega)).trans h1, h2⟩
    generalize W11.setCell ⟨pb, 8, none⟩ (.slice a11 (n - k) cap11) = W12 at *
    clear hO11 p11 hE11 hl11 hw10 pw10 hO10
    have P12 := block_cell p12
    obtain ⟨cur, hcur, hsz⟩ := pw12
    have C12 := block_cell hcur
    have F12 := block_frozen hcur
    go_wp2_with fail
    generalize hV : ((((((((W12.setCell ⟨w.heap.size, 0, none⟩ _).setCell ⟨w.heap.size, 1, none⟩ _).setCell ⟨w.heap.size, 2, none⟩ _).setCell ⟨w.heap.size, 3, none⟩ _).setCell ⟨w.heap.size, 4, none⟩ _).setCell ⟨w.heap.size, 5, none⟩ _).setCell ⟨w.heap.size, 6, none⟩ _).setCell ⟨w.heap.size, 7, none⟩ _).setCell ⟨w.heap.size, 8, none⟩ _ = V
    have hV9 : V = putRow W12 w.heap.size 0 [.int .u8 z1, .int .u16 (wat zs 4), .bool (decide (16384 ≤ wat zs 6)), .int .u8 z8, .int .u8 z9, .int .u32 (wat4 zs 12), .int .u32 (wat4 zs 16), .slice a9 (k - 20) cap9, .slice a11 (n - k) cap11] := hV.symm
    have hb13 : But (fun b => b = w.heap.size) W12 V := by rw [hV9]; exact putRow_but (E := fun b => b = w.heap.size) (n := w.heap.size) rfl _ _ _ _ (But.refl _ _)
    have p13 := putRow_all [.int .u8 z1, .int .u16 (wat zs 4), .bool (decide (16384 ≤ wat zs 6)), .int .u8 z8, .int .u8 z9, .int .u32 (wat4 zs 12), .int .u32 (wat4 zs 16), .slice a9 (k - 20) cap9, .slice a11 (n - k) cap11] hcur (by simpa using hsz)
    rw [← hV9] at p13
    have hd : decide (16384 ≤ wat zs 6 % 32768) = decide (16384 ≤ wat zs 6) := by rw [Int.emod_eq_of_lt (by omega) (by omega)]
    have hpk : pkt zs (.slice a9 (k - 20) cap9) (.slice a11 (n - k) cap11) = .agg (List.toArray [.int .u8 z1, .int .u16 (wat zs 4), .bool (decide (16384 ≤ wat zs 6)), .int .u8 z8, .int .u8 z9, .int .u32 (wat4 zs 12), .int .u32 (wat4 zs 16), .slice a9 (k - 20) cap9, .slice a11 (n - k) cap11]) := by unfold pkt; rw [G1.out, G8.out, G9.out, hd]
    refine bodyPost_ret (v := .tuple #[pkt zs (.slice a9 (k - 20) cap9) (.slice a11 (n - k) cap11), .int .i64 0]) (by rw [hpk]; exact res_rread _ w.heap.size 0 _ _ _ _ _ _ _ _ _ V rfl rfl p13) rfl ⟨hw12.trans (hb13.below hw12.size (fun j h e => by omega)), .inr ⟨HR.out, _, _, rfl, ?_, ?_⟩⟩
    · rw [HK.out, Int.toNat_natCast]
      exact (hO13.but hb13 (fun b h e => by omega)).mono (by omega)
    · rw [HK.out, HN.out, Int.toNat_natCast, Int.toNat_natCast]
      exact (hO12.but hb13 (fun b h e => by omega)).mono (by omega)

  · by_cases h6 : (zs.length : Int) < wat zs 2
    · go_wp2_with fail
      refine (rgood_any _ (zs.take k) (hB.take _) (by simp; omega) w2 (((hI.take k (by omega)).below (hb1.trans (hl2.mono (by omega)))).mono (by omega))).mono ?_
      rintro e w3 ⟨rfl, hl3⟩
      have hL3 : Later _ w3 := hl2.trans hl3
      have z3 := hL3.size
      cases hg : (Mt.cks (zs.take k) == 0)
      · have hc5 : chk zs = 5 := by unfold chk; rw [HK.out, Int.toNat_natCast, if_pos (by simpa using hg)]
        have HR : Hid (rde true zs = 5) := by show _ = _; unfold rde; rw [hm0.out, if_neg (by simp), if_neg (by simp [ral]; omega), hc5]; rfl
        clear hc5
        have pk := ((hL3).block w.heap.size (by omega)).trans p1
        have Pk := block_cell pk
        have Fk := block_frozen pk
        go_wp2_with fail
        clear Pk Fk
        generalize hV : ((((((((w3.setCell ⟨w.heap.size, 0, none⟩ _).setCell ⟨w.heap.size, 1, none⟩ _).setCell ⟨w.heap.size, 2, none⟩ _).setCell ⟨w.heap.size, 3, none⟩ _).setCell ⟨w.heap.size, 4, none⟩ _).setCell ⟨w.heap.size, 5, none⟩ _).setCell ⟨w.heap.size, 6, none⟩ _).setCell ⟨w.heap.size, 7, none⟩ _).setCell ⟨w.heap.size, 8, none⟩ _ = V
        have hV9 : V = putRow w3 w.heap.size 0 zc := hV.symm
        have hb8 : But (fun b => b = w.heap.size) w3 V := by rw [hV9]; exact putRow_but (E := fun b => b = w.heap.size) (n := w.heap.size) rfl _ _ _ _ (But.refl _ _)
        have p8 := putRow_all zc pk rfl
        rw [← hV9] at p8
        exact rexit _ w.heap.size 5 _ rfl rfl p8 ⟨(hb1.trans ((hL3).mono (by omega))).trans (hb8.below (Nat.le_trans (by omega) (hL3).size) (fun j h e => by omega)), .inl (by rw [HR.out]; exact ⟨by omega, rfl⟩)⟩

      have hg0 : Mt.cks (zs.take k) = 0 := by simpa using hg
      have Hg := hide hg0
      clear hg hg0
      go_wp2_with fail
      refine (rget16_rd _ zs hB 6 (by omega) hl w3 (hI.below (hb1.trans (hL3.mono (by omega))))).mono ?_
      rintro e w4 ⟨rfl, hl4'⟩
      have hL4 : Later _ w4 := hL3.trans hl4'
      have z4 := hL4.size
      have hff := wat_bd hB 6
      by_cases h7 : wat zs 6 % 16384 ≠ 0
      · have t7 : (wat zs 6 % 16384 != 0) = true := by simpa using h7
        have hc5 : chk zs = 7 := by unfold chk; rw [HK.out, Int.toNat_natCast, if_neg (by simp [Hg.out]), if_pos h7]
        have HR : Hid (rde true zs = 7) := by show _ = _; unfold rde; rw [hm0.out, if_neg (by simp), if_neg (by simp [ral]; omega), hc5]; rfl
        clear hc5
        have pk := ((hL4).block w.heap.size (by omega)).trans p1
        have Pk := block_cell pk
        have Fk := block_frozen pk
        go_wp2_with fail
        clear Pk Fk
        generalize hV : ((((((((w4.setCell ⟨w.heap.size, 0, none⟩ _).setCell ⟨w.heap.size, 1, none⟩ _).setCell ⟨w.heap.size, 2, none⟩ _).setCell ⟨w.heap.size, 3, none⟩ _).setCell ⟨w.heap.size, 4, none⟩ _).setCell ⟨w.heap.size, 5, none⟩ _).setCell ⟨w.heap.size, 6, none⟩ _).setCell ⟨w.heap.size, 7, none⟩ _).setCell ⟨w.heap.size, 8, none⟩ _ = V
        have hV9 : V = putRow w4 w.heap.size 0 zc := hV.symm
        have hb8 : But (fun b => b = w.heap.size) w4 V := by rw [hV9]; exact putRow_but (E := fun b => b = w.heap.size) (n := w.heap.size) rfl _ _ _ _ (But.refl _ _)
        have p8 := putRow_all zc pk rfl
        rw [← hV9] at p8
        exact rexit _ w.heap.size 7 _ rfl rfl p8 ⟨(hb1.trans ((hL4).mono (by omega))).trans (hb8.below (Nat.le_trans (by omega) (hL4).size) (fun j h e => by omega)), .inl (by rw [HR.out]; exact ⟨by omega, rfl⟩)⟩

      have t7 : (wat zs 6 % 16384 != 0) = false := by simpa using h7
      by_cases h8 : 32768 ≤ wat zs 6
      · have hc5 : chk zs = 4 := by unfold chk; rw [HK.out, Int.toNat_natCast, if_neg (by simp [Hg.out]), if_neg h7, if_pos h8]
        have HR : Hid (rde true zs = 4) := by show _ = _; unfold rde; rw [hm0.out, if_neg (by simp), if_neg (by simp [ral]; omega), hc5]; rfl
        clear hc5
        have pk := ((hL4).block w.heap.size (by omega)).trans p1
        have Pk := block_cell pk
        have Fk := block_frozen pk
        go_wp2_with fail
        clear Pk Fk
        generalize hV : ((((((((w4.setCell ⟨w.heap.size, 0, none⟩ _).setCell ⟨w.heap.size, 1, none⟩ _).setCell ⟨w.heap.size, 2, none⟩ _).setCell ⟨w.heap.size, 3, none⟩ _).setCell ⟨w.heap.size, 4, none⟩ _).setCell ⟨w.heap.size, 5, none⟩ _).setCell ⟨w.heap.size, 6, none⟩ _).setCell ⟨w.heap.size, 7, none⟩ _).setCell ⟨w.heap.size, 8, none⟩ _ = V
        have hV9 : V = putRow w4 w.heap.size 0 zc := hV.symm
        have hb8 : But (fun b => b = w.heap.size) w4 V := by rw [hV9]; exact putRow_but (E := fun b => b = w.heap.size) (n := w.heap.size) rfl _ _ _ _ (But.refl _ _)
        have p8 := putRow_all zc pk rfl
        rw [← hV9] at p8
        exact rexit _ w.heap.size 4 _ rfl rfl p8 ⟨(hb1.trans ((hL4).mono (by omega))).trans (hb8.below (Nat.le_trans (by omega) (hL4).size) (fun j h e => by omega)), .inl (by rw [HR.out]; exact ⟨by omega, rfl⟩)⟩

      have hc0 : Hid (chk zs = 0) := by show _ = _; unfold chk; rw [HK.out, Int.toNat_natCast, if_neg (by simp [Hg.out]), if_neg h7, if_neg h8]

      by_cases h9 : (zs.length : Int) - (k : Int) < 8
      · have HR : Hid (rde true zs = 3) := by show _ = _; unfold rde; rw [hm0.out, if_neg (by simp), if_neg (by simp [ral]; omega), hc0.out, if_neg (by simp), HK.out, if_pos ⟨rfl, by simp [ral]; omega⟩]
        have pk := ((hL4).block w.heap.size (by omega)).trans p1
        have Pk := block_cell pk
        have Fk := block_frozen pk
        go_wp2_with fail
        clear Pk Fk
        generalize hV : ((((((((w4.setCell ⟨w.heap.size, 0, none⟩ _).setCell ⟨w.heap.size, 1, none⟩ _).setCell ⟨w.heap.size, 2, none⟩ _).setCell ⟨w.heap.size, 3, none⟩ _).setCell ⟨w.heap.size, 4, none⟩ _).setCell ⟨w.heap.size, 5, none⟩ _).setCell ⟨w.heap.size, 6, none⟩ _).setCell ⟨w.heap.size, 7, none⟩ _).setCell ⟨w.heap.size, 8, none⟩ _ = V
        have hV9 : V = putRow w4 w.heap.size 0 zc := hV.symm
        have hb8 : But (fun b => b = w.heap.size) w4 V := by rw [hV9]; exact putRow_but (E := fun b => b = w.heap.size) (n := w.heap.size) rfl _ _ _ _ (But.refl _ _)
        have p8 := putRow_all zc pk rfl
        rw [← hV9] at p8
        exact rexit _ w.heap.size 3 _ rfl rfl p8 ⟨(hb1.trans ((hL4).mono (by omega))).trans (hb8.below (Nat.le_trans (by omega) (hL4).size) (fun j h e => by omega)), .inl (by rw [HR.out]; exact ⟨by omega, rfl⟩)⟩

      have HR : Hid (rde true zs = 0) := by show _ = _; unfold rde; rw [hm0.out, if_neg (by simp), if_neg (by simp [ral]; omega), hc0.out, if_neg (by simp), HK.out, if_neg (by simp [ral]; omega)]

      go_wp2_with fail
      have hkn : 20 ≤ k ∧ k ≤ zs.length ∧ zs.length ≤ zs.length := by omega
      have HN : Hid (ral true zs = (zs.length : Int)) := by show _ = _; simp [ral]; omega

      have d1 := hc 1 (by omega)
      have d8 := hc 8 (by omega)
      have d9 := hc 9 (by omega)
      have hbw4 := hb1.trans (hL4.mono (by omega))
      generalize gz1 : zs[1]?.getD 0 = z1 at *
      generalize gz8 : zs[8]?.getD 0 = z8 at *
      generalize gz9 : zs[9]?.getD 0 = z9 at *
      have G1 := hide gz1
      have G8 := hide gz8
      have G9 := hide gz9
      clear gz1 gz8 gz9
      have i1 : (1 : Int) < zs.length := by omega
      have i8 : (8 : Int) < zs.length := by omega
      have i9 : (9 : Int) < zs.length := by omega
      refine anyR_begin (R := KI w4.heap.size 26 9 (List.toArray [.int .u8 z1, .int .u16 (wat zs 4), .bool (decide (16384 ≤ wat zs 6)), .int .u8 z8, .int .u8 z9, .int .u32 (wat4 zs 12), .int .u32 (wat4 zs 16), .slice none 0 0, .slice none 0 0])) (KI.pre _ _ _ _) (fun w => KI.of (Later.drew w)) 20 rfl (by kernel_rfl) (fun W5 hW5 => ?_)
      have hbel : ∀ w1, KI w4.heap.size 26 9 (List.toArray [.int .u8 z1, .int .u16 (wat zs 4), .bool (decide (16384 ≤ wat zs 6)), .int .u8 z8, .int .u8 z9, .int .u32 (wat4 zs 12), .int .u32 (wat4 zs 16), .slice none 0 0, .slice none 0 0]) W5 w1 → Below w.heap.size w w1 := fun w1 h => hbw4.trans (((hW5.trans h).1.below (Nat.le_refl _) (fun k hk e => by omega)).mono (by omega))
      have hr1 : ∀ w1, KI w4.heap.size 26 9 (List.toArray [.int .u8 z1, .int .u16 (wat zs 4), .bool (decide (16384 ≤ wat zs 6)), .int .u8 z8, .int .u8 z9, .int .u32 (wat4 zs 12), .int .u32 (wat4 zs 16), .slice none 0 0, .slice none 0 0]) W5 w1 → Rd w.heap.size w1 (.slice (some ⟨b, off, none⟩) zs.length cap) zs := fun w1 h => hI.below (hbel w1 h)
      have e1 : ∀ w1, KI w4.heap.size 26 9 (List.toArray [.int .u8 z1, .int .u16 (wat zs 4), .bool (decide (16384 ≤ wat zs 6)), .int .u8 z8, .int .u8 z9, .int .u32 (wat4 zs 12), .int .u32 (wat4 zs 16), .slice none 0 0, .slice none 0 0]) W5 w1 → w1.cell? ⟨b, off + 1, none⟩ = some (.int .u8 z1) := fun w1 h => ((hbel w1 h).cell (p := ⟨b, off + 1, none⟩) hb).trans d1
      have e8 : ∀ w1, KI w4.heap.size 26 9 (List.toArray [.int .u8 z1, .int .u16 (wat zs 4), .bool (decide (16384 ≤ wat zs 6)), .int .u8 z8, .int .u8 z9, .int .u32 (wat4 zs 12), .int .u32 (wat4 zs 16), .slice none 0 0, .slice none 0 0]) W5 w1 → w1.cell? ⟨b, off + 8, none⟩ = some (.int .u8 z8) := fun w1 h => ((hbel w1 h).cell (p := ⟨b, off + 8, none⟩) hb).trans d8
      have e9 : ∀ w1, KI w4.heap.size 26 9 (List.toArray [.int .u8 z1, .int .u16 (wat zs 4), .bool (decide (16384 ≤ wat zs 6)), .int .u8 z8, .int .u8 z9, .int .u32 (wat4 zs 12), .int .u32 (wat4 zs 16), .slice none 0 0, .slice none 0 0]) W5 w1 → w1.cell? ⟨b, off + 9, none⟩ = some (.int .u8 z9) := fun w1 h => ((hbel w1 h).cell (p := ⟨b, off + 9, none⟩) hb).trans d9
      clear d1 d8 d9
      refine anyR_val (KI.pre _ _ _ _) 0 rfl (by kernel_rfl) (by kernel_rfl) (by kernel_rfl) (fun _ _ _ _ h => h) rfl ?_; apply Exists.intro; refine ⟨fun w1 hw1 => ?_, ?_⟩; (· (go_simp; rfl)); simp only [Act.put, List.setIfInBounds_toArray, List.set_cons_zero, List.set_cons_succ]
      refine anyR_val (KI.pre _ _ _ _) 1 rfl (by kernel_rfl) (by kernel_rfl) (by kernel_rfl) (fun _ _ _ _ h => h) rfl ?_; apply Exists.intro; refine ⟨fun w1 hw1 => ?_, ?_⟩; (· (go_simp; rfl)); simp only [Act.put, List.setIfInBounds_toArray, List.set_cons_zero, List.set_cons_succ]
      refine anyR_val (KI.pre _ _ _ _) 2 rfl (by kernel_rfl) (by kernel_rfl) (by kernel_rfl) (fun _ _ _ _ h => h) rfl ?_; apply Exists.intro; refine ⟨fun w1 hw1 => ?_, ?_⟩; (· (go_simp; rfl)); simp only [Act.put, List.setIfInBounds_toArray, List.set_cons_zero, List.set_cons_succ]
      refine anyR_val (KI.pre _ _ _ _) 3 rfl (by kernel_rfl) (by kernel_rfl) (by kernel_rfl) (fun _ _ _ _ h => h) rfl ?_; apply Exists.intro; refine ⟨fun w1 hw1 => ?_, ?_⟩; (· (go_simp; rfl)); simp only [Act.put, List.setIfInBounds_toArray, List.set_cons_zero, List.set_cons_succ]
      refine anyR_take (KI.pre _ _ _ _) 4 (.int .u16 (wat zs 4)) rfl (by kernel_rfl) (by kernel_rfl) (by kernel_rfl) (fun _ _ _ h => h) rfl (fun w1 hw1 => goes_call 53 #[.slice (some ⟨b, off, none⟩) zs.length cap, .int .i64 4] (by go_simp) ?_) ?_
      · exact (rget16_rd _ zs hB 4 (by omega) hl w1 (hr1 w1 hw1)).mono fun e w' ⟨he, hw⟩ => ⟨he, KI.of hw⟩
      simp only [Act.put, List.setIfInBounds_toArray, List.set_cons_zero, List.set_cons_succ]
      refine anyR_val (KI.pre _ _ _ _) 5 rfl (by kernel_rfl) (by kernel_rfl) (by kernel_rfl) (fun _ _ _ _ h => h) rfl ?_; apply Exists.intro; refine ⟨fun w1 hw1 => ?_, ?_⟩; (· (go_simp; rfl)); simp only [Act.put, List.setIfInBounds_toArray, List.set_cons_zero, List.set_cons_succ]
      refine anyR_val (KI.pre _ _ _ _) 6 rfl (by kernel_rfl) (by kernel_rfl) (by kernel_rfl) (fun _ _ _ _ h => h) rfl ?_; apply Exists.intro; refine ⟨fun w1 hw1 => ?_, ?_⟩; (· (go_simp; rfl)); simp only [Act.put, List.setIfInBounds_toArray, List.set_cons_zero, List.set_cons_succ]
      refine anyR_val (KI.pre _ _ _ _) 7 rfl (by kernel_rfl) (by kernel_rfl) (by kernel_rfl) (fun _ _ _ _ h => h) rfl ?_; apply Exists.intro; refine ⟨fun w1 hw1 => ?_, ?_⟩; (· (go_simp; rfl)); simp only [Act.put, List.setIfInBounds_toArray, List.set_cons_zero, List.set_cons_succ]
      refine anyR_val (KI.pre _ _ _ _) 8 rfl (by kernel_rfl) (by kernel_rfl) (by kernel_rfl) (fun _ _ _ _ h => h) rfl ?_; apply Exists.intro; refine ⟨fun w1 hw1 => ?_, ?_⟩; (· (go_simp; rfl)); simp only [Act.put, List.setIfInBounds_toArray, List.set_cons_zero, List.set_cons_succ]
      refine anyR_val (KI.pre _ _ _ _) 9 rfl (by kernel_rfl) (by kernel_rfl) (by kernel_rfl) (fun _ _ _ _ h => h) rfl ?_; apply Exists.intro; refine ⟨fun w1 hw1 => ?_, ?_⟩; (· (go_simp; rfl)); simp only [Act.put, List.setIfInBounds_toArray, List.set_cons_zero, List.set_cons_succ]
      refine anyR_val (KI.pre _ _ _ _) 10 rfl (by kernel_rfl) (by kernel_rfl) (by kernel_rfl) (fun _ _ _ _ h => h) rfl ?_; apply Exists.intro; refine ⟨fun w1 hw1 => ?_, ?_⟩; (· (go_simp; rfl)); simp only [Act.put, List.setIfInBounds_toArray, List.set_cons_zero, List.set_cons_succ]
      refine anyR_val (KI.pre _ _ _ _) 11 rfl (by kernel_rfl) (by kernel_rfl) (by kernel_rfl) (fun _ _ _ _ h => h) rfl ?_; apply Exists.intro; refine ⟨fun w1 hw1 => ?_, ?_⟩; (· (go_simp; rfl)); simp only [Act.put, List.setIfInBounds_toArray, List.set_cons_zero, List.set_cons_succ]
      refine anyR_val (KI.pre _ _ _ _) 12 rfl (by kernel_rfl) (by kernel_rfl) (by kernel_rfl) (fun _ _ _ _ h => h) rfl ?_; apply Exists.intro; refine ⟨fun w1 hw1 => ?_, ?_⟩; (· (go_simp; rfl)); simp only [Act.put, List.setIfInBounds_toArray, List.set_cons_zero, List.set_cons_succ]
      refine anyR_val (KI.pre _ _ _ _) 13 rfl (by kernel_rfl) (by kernel_rfl) (by kernel_rfl) (fun _ _ _ _ h => h) rfl ?_; apply Exists.intro; refine ⟨fun w1 hw1 => ?_, ?_⟩; (· (go_simp; rfl)); simp only [Act.put, List.setIfInBounds_toArray, List.set_cons_zero, List.set_cons_succ]
      refine anyR_take (KI.pre _ _ _ _) 14 (.int .u32 (wat4 zs 12)) rfl (by kernel_rfl) (by kernel_rfl) (by kernel_rfl) (fun _ _ _ h => h) rfl (fun w1 hw1 => goes_call 54 #[.slice (some ⟨b, off, none⟩) zs.length cap, .int .i64 12] (by go_simp) ?_) ?_
      · exact (rget32_rd _ zs hB 12 (by omega) hl w1 (hr1 w1 hw1)).mono fun e w' ⟨he, hw⟩ => ⟨he, KI.of hw⟩
      simp only [Act.put, List.setIfInBounds_toArray, List.set_cons_zero, List.set_cons_succ]
      refine anyR_val (KI.pre _ _ _ _) 15 rfl (by kernel_rfl) (by kernel_rfl) (by kernel_rfl) (fun _ _ _ _ h => h) rfl ?_; apply Exists.intro; refine ⟨fun w1 hw1 => ?_, ?_⟩; (· (go_simp; rfl)); simp only [Act.put, List.setIfInBounds_toArray, List.set_cons_zero, List.set_cons_succ]
      refine anyR_take (KI.pre _ _ _ _) 16 (.int .u32 (wat4 zs 16)) rfl (by kernel_rfl) (by kernel_rfl) (by kernel_rfl) (fun _ _ _ h => h) rfl (fun w1 hw1 => goes_call 54 #[.slice (some ⟨b, off, none⟩) zs.length cap, .int .i64 16] (by go_simp) ?_) ?_
      · exact (rget32_rd _ zs hB 16 (by omega) hl w1 (hr1 w1 hw1)).mono fun e w' ⟨he, hw⟩ => ⟨he, KI.of hw⟩
      simp only [Act.put, List.setIfInBounds_toArray, List.set_cons_zero, List.set_cons_succ]
      refine anyR_val (KI.pre _ _ _ _) 17 rfl (by kernel_rfl) (by kernel_rfl) (by kernel_rfl) (fun _ _ _ _ h => h) rfl ?_; apply Exists.intro; refine ⟨fun w1 hw1 => ?_, ?_⟩; (· (go_simp; rfl)); simp only [Act.put, List.setIfInBounds_toArray, List.set_cons_zero, List.set_cons_succ]

      refine anyR_one 18 rfl (by kernel_rfl) rfl (fun W6 hW6 => ?_)
      have hs6 : w4.heap.size ≤ W6.heap.size := (hW5.trans hW6).1.size
      unfold Oper.wp
      go_simp
      refine ⟨KI.of ((Below.refl _ _).alloc (Nat.le_refl _) _), ?_⟩
      refine anyR_one 19 rfl (by kernel_rfl) rfl (fun W7 hW7 => ?_)
      have hwr : Wr W6.heap.size 9 26 W7 := hW7.2.1 _ ⟨_, heap_alloc_new W6 _, rfl⟩
      have hst := KI.store (n₁ := w4.heap.size) [.int .u8 z1, .int .u16 (wat zs 4), .bool (decide (16384 ≤ wat zs 6)), .int .u8 z8, .int .u8 z9, .int .u32 (wat4 zs 12), .int .u32 (wat4 zs 16), .slice none 0 0, .slice none 0 0] hs6 hwr rfl
      obtain ⟨cur, hcur, hsz⟩ := hwr
      have k7 := block_cell hcur
      have f7 := block_frozen hcur
      have HS := hide hst
      clear hst
      unfold Oper.wp
      go_simp
      generalize hV : ((((((((W7.setCell ⟨W6.heap.size, 0, none⟩ _).setCell ⟨W6.heap.size, 1, none⟩ _).setCell ⟨W6.heap.size, 2, none⟩ _).setCell ⟨W6.heap.size, 3, none⟩ _).setCell ⟨W6.heap.size, 4, none⟩ _).setCell ⟨W6.heap.size, 5, none⟩ _).setCell ⟨W6.heap.size, 6, none⟩ _).setCell ⟨W6.heap.size, 7, none⟩ _).setCell ⟨W6.heap.size, 8, none⟩ _ = V
      have hV9 : V = putRow W7 W6.heap.size 0 [.int .u8 z1, .int .u16 (wat zs 4), .bool (decide (16384 ≤ wat zs 6)), .int .u8 z8, .int .u8 z9, .int .u32 (wat4 zs 12), .int .u32 (wat4 zs 16), .slice none 0 0, .slice none 0 0] := hV.symm
      have hst := HS.out
      rw [← hV9] at hst
      clear hV hV9 HS k7 f7
      refine ⟨hst.1, anyR_done (by kernel_rfl) (fun W8 hW8 => ?_)⟩
      have p8 := hW8.2.2 _ hst.2
      have hwW8 : Below w.heap.size w W8 := hbel W8 (((hW6.trans (KI.of ((Below.refl _ _).alloc (Nat.le_refl _) _))).trans hW7).trans (hst.1.trans hW8))
      have hq8 : w.heap.size < W6.heap.size := by omega
      have pw8 : Wr w.heap.size 9 26 W8 := hW8.2.1 _ (hst.1.2.1 _ (hW7.2.1 _ ((KI.of ((Below.refl W6.heap.size W6).alloc (Nat.le_refl _) _) : KI w4.heap.size 26 9 (List.toArray [.int .u8 z1, .int .u16 (wat zs 4), .bool (decide (16384 ≤ wat zs 6)), .int .u8 z8, .int .u8 z9, .int .u32 (wat4 zs 12), .int .u32 (wat4 zs 16), .slice none 0 0, .slice none 0 0]) W6 _).2.1 _ (hW6.2.1 _ (hW5.2.1 _ ⟨_, (hL4.block w.heap.size (by omega)).trans p1, rfl⟩)))))
      generalize W6.heap.size = pb at *
      clear hbel hr1 e1 e8 e9 hst hW7 hW6 hs6 hcur hsz hW8
      have hs8 := (Array.getElem?_eq_some_iff.1 p8).1
      have P8 := block_cell p8
      go_wp2_with fail
      have hR8 := (((hI.below hwW8).take k (by omega)).cutAt 20 (by omega)).drew 1
      obtain ⟨v9, W9, hrun9, hown9, hgr9⟩ := run_app (P := Tryd.prog) W8.drew 24 24 5 (pb + 1) i0 Tryd.underlying24 hi hz0 hz1 hz2 (.slice none 0 0) [] (World.ownsRow_nil _ _ _ _) w.heap.size _ ((zs.take k).drop 20) hR8 (by simp; omega) hs8
      have hl9 : Later W8 W9 := Later.trans (Later.drew W8) ((Below.refl _ W8.drew).grown hgr9 (Nat.le_refl _) (fun _ e => by cases e))
      have hO9 := Ow.of_row hown9
      rw [List.nil_append] at hO9
      obtain ⟨a9, cap9, rfl, hq9, hm9⟩ := hO9.slice
      clear hown9 hgr9 hR8
      have p9 := (hl9.block pb hs8).trans p8
      have P9 := block_cell p9
      have F9 := block_frozen p9
      have hLo : Hid (((zs.take k).drop 20).length = k - 20) := by show _ = _; simp; omega
      rw [hLo.out] at hrun9 hO9
      have i20 : (20 : Int) ≤ k := by omega
      go_region_law (refine step_run rfl (.tmp 92) (.tmp 95) 24 rfl _ _ rfl rfl _ W9 hrun9 ?_)
      clear hrun9 P8 P9 F9
      generalize (if cap = 20 then some (⟨b, off, none⟩ : Addr) else some ⟨b, off + 20, none⟩) = ad20 at *
      have p10 : (W9.setCell ⟨pb, 7, none⟩ (.slice a9 (k - 20) cap9)).heap[pb]? = some (.cells (List.toArray [.int .u8 z1, .int .u16 (wat zs 4), .bool (decide (16384 ≤ wat zs 6)), .int .u8 z8, .int .u8 z9, .int .u32 (wat4 zs 12), .int .u32 (wat4 zs 16), .slice a9 (k - 20) cap9, .slice none 0 0]) 26 (0, 0)) := heap_set1 p9 7 (.slice a9 (k - 20) cap9)
      have hE9 : But (fun b => b = pb) W9 (W9.setCell ⟨pb, 7, none⟩ (.slice a9 (k - 20) cap9)) := (But.refl (fun b => b = pb) W9).setCell (p := ⟨pb, 7, none⟩) (E := fun b => b = pb) rfl _
      have hO10 := hO9.but hE9 (fun b h e => by omega)
      have hw10 : Below w.heap.size w _ := (hwW8.trans (hl9.mono hwW8.size)).setCell (p := ⟨pb, 7, none⟩) (Nat.le_of_lt hq8) (.slice a9 (k - 20) cap9)
      have pw10 : Wr w.heap.size 9 26 (W9.setCell ⟨pb, 7, none⟩ (.slice a9 (k - 20) cap9)) := by
        obtain ⟨c, h1, h2⟩ := pw8.later hl9
        exact ⟨c, (hE9.block _ (Array.getElem?_eq_some_iff.1 h1).1 (by omega)).trans h1, h2⟩
      generalize W9.setCell ⟨pb, 7, none⟩ (.slice a9 (k - 20) cap9) = W10 at *
      clear hO9 p9 hE9 hl9 hwW8 pw8
      have hs10 := (Array.getElem?_eq_some_iff.1 p10).1
      have P10 := block_cell p10
      go_wp2_with fail
      have hR10 := (((hI.below hw10).take zs.length (by omega)).cutAt k (by omega)).drew 1
      obtain ⟨v11, W11, hrun11, hown11, hgr11⟩ := run_app (P := Tryd.prog) W10.drew 24 24 5 (pb + 1) i0 Tryd.underlying24 hi hz0 hz1 hz2 (.slice none 0 0) [] (World.ownsRow_nil _ _ _ _) w.heap.size _ ((zs.take zs.length).drop k) hR10 (by simp; omega) hs10
      have hl11 : Later W10 W11 := Later.trans (Later.drew W10) ((Below.refl _ W10.drew).grown hgr11 (Nat.le_refl _) (fun _ e => by cases e))
      have hO11 := Ow.of_row hown11
      rw [List.nil_append] at hO11
      obtain ⟨a11, cap11, rfl, hq11, hm11⟩ := hO11.slice
      clear hown11 hgr11 hR10
      have p11 := (hl11.block pb hs10).trans p10
      have P11 := block_cell p11
      have F11 := block_frozen p11
      have hLd : Hid (((zs.take zs.length).drop k).length = zs.length - k) := by show _ = _; simp; try omega
      rw [hLd.out] at hrun11 hO11
      have ikn : (k : Int) ≤ zs.length := by omega
      have inc : zs.length ≤ cap := by omega
      have inc2 : (zs.length : Int) ≤ cap := by omega
      go_region_law (refine step_run rfl (.tmp 99) (.tmp 103) 24 rfl _ _ rfl rfl _ W11 hrun11 ?_)
      clear hrun11 P10 P11 F11
      generalize (if cap = k then some (⟨b, off, none⟩ : Addr) else some ⟨b, off + k, none⟩) = adk at *
      have p12 : (W11.setCell ⟨pb, 8, none⟩ (.slice a11 (zs.length - k) cap11)).heap[pb]? = some (.cells (List.toArray [.int .u8 z1, .int .u16 (wat zs 4), .bool (decide (16384 ≤ wat zs 6)), .int .u8 z8, .int .u8 z9, .int .u32 (wat4 zs 12), .int .u32 (wat4 zs 16), .slice a9 (k - 20) cap9, .slice a11 (zs.length - k) cap11]) 26 (0, 0)) := heap_set1 p11 8 (.slice a11 (zs.length - k) cap11)
      have hE11 : But (fun b => b = pb) W11 (W11.setCell ⟨pb, 8, none⟩ (.slice a11 (zs.length - k) cap11)) := (But.refl (fun b => b = pb) W11).setCell (p := ⟨pb, 8, none⟩) (E := fun b => b = pb) rfl _
      have hO12 := hO11.but hE11 (fun b h e => by omega)
      have hO13 := (hO10.below hl11 (Nat.le_refl _)).but hE11 (fun b h e => by omega)
      have hw12 : Below w.heap.size w _ := (hw10.trans (hl11.mono hw10.size)).setCell (p := ⟨pb, 8, none⟩) (Nat.le_of_lt hq8) (.slice a11 (zs.length - k) cap11)
      have pw12 : Wr w.heap.size 9 26 (W11.setCell ⟨pb, 8, none⟩ (.slice a11 (zs.length - k) cap11)) := by
        obtain ⟨c, h1, h2⟩ := pw10.later hl11
        exact ⟨c, (hE11.block _ (Array.getElem?_eq_some_iff.1 h1).1 (by omega)).trans h1, h2⟩
      generalize W11.setCell ⟨pb, 8, none⟩ (.slice a11 (zs.length - k) cap11) = W12 at *
      clear hO11 p11 hE11 hl11 hw10 pw10 hO10
      have P12 := block_cell p12
      obtain ⟨cur, hcur, hsz⟩ := pw12
      have C12 := block_cell hcur
      have F12 := block_frozen hcur
      go_wp2_with fail
      generalize hV : ((((((((W12.setCell ⟨w.heap.size, 0, none⟩ _).setCell ⟨w.heap.size, 1, none⟩ _).setCell ⟨w.heap.size, 2, none⟩ _).setCell ⟨w.heap.size, 3, none⟩ _).setCell ⟨w.heap.size, 4, none⟩ _).setCell ⟨w.heap.size, 5, none⟩ _).setCell ⟨w.heap.size, 6, none⟩ _).setCell ⟨w.heap.size, 7, none⟩ _).setCell ⟨w.heap.size, 8, none⟩ _ = V
      have hV9 : V = putRow W12 w.heap.size 0 [.int .u8 z1, .int .u16 (wat zs 4), .bool (decide (16384 ≤ wat zs 6)), .int .u8 z8, .int .u8 z9, .int .u32 (wat4 zs 12), .int .u32 (wat4 zs 16), .slice a9 (k - 20) cap9, .slice a11 (zs.length - k) cap11] := hV.symm
      have hb13 : But (fun b => b = w.heap.size) W12 V := by rw [hV9]; exact putRow_but (E := fun b => b = w.heap.size) (n := w.heap.size) rfl _ _ _ _ (But.refl _ _)
      have p13 := putRow_all [.int .u8 z1, .int .u16 (wat zs 4), .bool (decide (16384 ≤ wat zs 6)), .int .u8 z8, .int .u8 z9, .int .u32 (wat4 zs 12), .int .u32 (wat4 zs 16), .slice a9 (k - 20) cap9, .slice a11 (zs.length - k) cap11] hcur (by simpa using hsz)
      rw [← hV9] at p13
      have hd : decide (16384 ≤ wat zs 6 % 32768) = decide (16384 ≤ wat zs 6) := by rw [Int.emod_eq_of_lt (by omega) (by omega)]
      have hpk : pkt zs (.slice a9 (k - 20) cap9) (.slice a11 (zs.length - k) cap11) = .agg (List.toArray [.int .u8 z1, .int .u16 (wat zs 4), .bool (decide (16384 ≤ wat zs 6)), .int .u8 z8, .int .u8 z9, .int .u32 (wat4 zs 12), .int .u32 (wat4 zs 16), .slice a9 (k - 20) cap9, .slice a11 (zs.length - k) cap11]) := by unfold pkt; rw [G1.out, G8.out, G9.out, hd]
      refine bodyPost_ret (v := .tuple #[pkt zs (.slice a9 (k - 20) cap9) (.slice a11 (zs.length - k) cap11), .int .i64 0]) (by rw [hpk]; exact res_rread _ w.heap.size 0 _ _ _ _ _ _ _ _ _ V rfl rfl p13) rfl ⟨hw12.trans (hb13.below hw12.size (fun j h e => by omega)), .inr ⟨HR.out, _, _, rfl, ?_, ?_⟩⟩
      · rw [HK.out, Int.toNat_natCast]
        exact (hO13.but hb13 (fun b h e => by omega)).mono (by omega)
      · rw [HK.out, HN.out, Int.toNat_natCast, Int.toNat_natCast]
        exact (hO12.but hb13 (fun b h e => by omega)).mono (by omega)

    · go_wp2_with fail
      refine (rgood_any _ (zs.take k) (hB.take _) (by simp; omega) w2 (((hI.take k (by omega)).below (hb1.trans (hl2.mono (by omega)))).mono (by omega))).mono ?_
      rintro e w3 ⟨rfl, hl3⟩
      have hL3 : Later _ w3 := hl2.trans hl3
      have z3 := hL3.size
      cases hg : (Mt.cks (zs.take k) == 0)
      · have hc5 : chk zs = 5 := by unfold chk; rw [HK.out, Int.toNat_natCast, if_pos (by simpa using hg)]
        have HR : Hid (rde true zs = 5) := by show _ = _; unfold rde; rw [hm0.out, if_neg (by simp), if_neg (by simp [ral]; omega), hc5]; rfl
        clear hc5
        have pk := ((hL3).block w.heap.size (by omega)).trans p1
        have Pk := block_cell pk
        have Fk := block_frozen pk
        go_wp2_with fail
        clear Pk Fk
        generalize hV : ((((((((w3.setCell ⟨w.heap.size, 0, none⟩ _).setCell ⟨w.heap.size, 1, none⟩ _).setCell ⟨w.heap.size, 2, none⟩ _).setCell ⟨w.heap.size, 3, none⟩ _).setCell ⟨w.heap.size, 4, none⟩ _).setCell ⟨w.heap.size, 5, none⟩ _).setCell ⟨w.heap.size, 6, none⟩ _).setCell ⟨w.heap.size, 7, none⟩ _).setCell ⟨w.heap.size, 8, none⟩ _ = V
        have hV9 : V = putRow w3 w.heap.size 0 zc := hV.symm
        have hb8 : But (fun b => b = w.heap.size) w3 V := by rw [hV9]; exact putRow_but (E := fun b => b = w.heap.size) (n := w.heap.size) rfl _ _ _ _ (But.refl _ _)
        have p8 := putRow_all zc pk rfl
        rw [← hV9] at p8
        exact rexit _ w.heap.size 5 _ rfl rfl p8 ⟨(hb1.trans ((hL3).mono (by omega))).trans (hb8.below (Nat.le_trans (by omega) (hL3).size) (fun j h e => by omega)), .inl (by rw [HR.out]; exact ⟨by omega, rfl⟩)⟩

      have hg0 : Mt.cks (zs.take k) = 0 := by simpa using hg
      have Hg := hide hg0
      clear hg hg0
      go_wp2_with fail
      refine (rget16_rd _ zs hB 6 (by omega) hl w3 (hI.below (hb1.trans (hL3.mono (by omega))))).mono ?_
      rintro e w4 ⟨rfl, hl4'⟩
      have hL4 : Later _ w4 := hL3.trans hl4'
      have z4 := hL4.size
      have hff := wat_bd hB 6
      by_cases h7 : wat zs 6 % 16384 ≠ 0
      · have t7 : (wat zs 6 % 16384 != 0) = true := by simpa using h7
        have hc5 : chk zs = 7 := by unfold chk; rw [HK.out, Int.toNat_natCast, if_neg (by simp [Hg.out]), if_pos h7]
        have HR : Hid (rde true zs = 7) := by show _ = _; unfold rde; rw [hm0.out, if_neg (by simp), if_neg (by simp [ral]; omega), hc5]; rfl
        clear hc5
        have pk := ((hL4).block w.heap.size (by omega)).trans p1
        have Pk := block_cell pk
        have Fk := block_frozen pk
        go_wp2_with fail
        clear Pk Fk
        generalize hV : ((((((((w4.setCell ⟨w.heap.size, 0, none⟩ _).setCell ⟨w.heap.size, 1, none⟩ _).setCell ⟨w.heap.size, 2, none⟩ _).setCell ⟨w.heap.size, 3, none⟩ _).setCell ⟨w.heap.size, 4, none⟩ _).setCell ⟨w.heap.size, 5, none⟩ _).setCell ⟨w.heap.size, 6, none⟩ _).setCell ⟨w.heap.size, 7, none⟩ _).setCell ⟨w.heap.size, 8, none⟩ _ = V
        have hV9 : V = putRow w4 w.heap.size 0 zc := hV.symm
        have hb8 : But (fun b => b = w.heap.size) w4 V := by rw [hV9]; exact putRow_but (E := fun b => b = w.heap.size) (n := w.heap.size) rfl _ _ _ _ (But.refl _ _)
        have p8 := putRow_all zc pk rfl
        rw [← hV9] at p8
        exact rexit _ w.heap.size 7 _ rfl rfl p8 ⟨(hb1.trans ((hL4).mono (by omega))).trans (hb8.below (Nat.le_trans (by omega) (hL4).size) (fun j h e => by omega)), .inl (by rw [HR.out]; exact ⟨by omega, rfl⟩)⟩

      have t7 : (wat zs 6 % 16384 != 0) = false := by simpa using h7
      by_cases h8 : 32768 ≤ wat zs 6
      · have hc5 : chk zs = 4 := by unfold chk; rw [HK.out, Int.toNat_natCast, if_neg (by simp [Hg.out]), if_neg h7, if_pos h8]
        have HR : Hid (rde true zs = 4) := by show _ = _; unfold rde; rw [hm0.out, if_neg (by simp), if_neg (by simp [ral]; omega), hc5]; rfl
        clear hc5
        have pk := ((hL4).block w.heap.size (by omega)).trans p1
        have Pk := block_cell pk
        have Fk := block_frozen pk
        go_wp2_with fail
        clear Pk Fk
        generalize hV : ((((((((w4.setCell ⟨w.heap.size, 0, none⟩ _).setCell ⟨w.heap.size, 1, none⟩ _).setCell ⟨w.heap.size, 2, none⟩ _).setCell ⟨w.heap.size, 3, none⟩ _).setCell ⟨w.heap.size, 4, none⟩ _).setCell ⟨w.heap.size, 5, none⟩ _).setCell ⟨w.heap.size, 6, none⟩ _).setCell ⟨w.heap.size, 7, none⟩ _).setCell ⟨w.heap.size, 8, none⟩ _ = V
        have hV9 : V = putRow w4 w.heap.size 0 zc := hV.symm
        have hb8 : But (fun b => b = w.heap.size) w4 V := by rw [hV9]; exact putRow_but (E := fun b => b = w.heap.size) (n := w.heap.size) rfl _ _ _ _ (But.refl _ _)
        have p8 := putRow_all zc pk rfl
        rw [← hV9] at p8
        exact rexit _ w.heap.size 4 _ rfl rfl p8 ⟨(hb1.trans ((hL4).mono (by omega))).trans (hb8.below (Nat.le_trans (by omega) (hL4).size) (fun j h e => by omega)), .inl (by rw [HR.out]; exact ⟨by omega, rfl⟩)⟩

      have hc0 : Hid (chk zs = 0) := by show _ = _; unfold chk; rw [HK.out, Int.toNat_natCast, if_neg (by simp [Hg.out]), if_neg h7, if_neg h8]

      by_cases h9 : wat zs 2 - (k : Int) < 8
      · have HR : Hid (rde true zs = 3) := by show _ = _; unfold rde; rw [hm0.out, if_neg (by simp), if_neg (by simp [ral]; omega), hc0.out, if_neg (by simp), HK.out, if_pos ⟨rfl, by simp [ral]; omega⟩]
        have pk := ((hL4).block w.heap.size (by omega)).trans p1
        have Pk := block_cell pk
        have Fk := block_frozen pk
        go_wp2_with fail
        clear Pk Fk
        generalize hV : ((((((((w4.setCell ⟨w.heap.size, 0, none⟩ _).setCell ⟨w.heap.size, 1, none⟩ _).setCell ⟨w.heap.size, 2, none⟩ _).setCell ⟨w.heap.size, 3, none⟩ _).setCell ⟨w.heap.size, 4, none⟩ _).setCell ⟨w.heap.size, 5, none⟩ _).setCell ⟨w.heap.size, 6, none⟩ _).setCell ⟨w.heap.size, 7, none⟩ _).setCell ⟨w.heap.size, 8, none⟩ _ = V
        have hV9 : V = putRow w4 w.heap.size 0 zc := hV.symm
        have hb8 : But (fun b => b = w.heap.size) w4 V := by rw [hV9]; exact putRow_but (E := fun b => b = w.heap.size) (n := w.heap.size) rfl _ _ _ _ (But.refl _ _)
        have p8 := putRow_all zc pk rfl
        rw [← hV9] at p8
        exact rexit _ w.heap.size 3 _ rfl rfl p8 ⟨(hb1.trans ((hL4).mono (by omega))).trans (hb8.below (Nat.le_trans (by omega) (hL4).size) (fun j h e => by omega)), .inl (by rw [HR.out]; exact ⟨by omega, rfl⟩)⟩

      have HR : Hid (rde true zs = 0) := by show _ = _; unfold rde; rw [hm0.out, if_neg (by simp), if_neg (by simp [ral]; omega), hc0.out, if_neg (by simp), HK.out, if_neg (by simp [ral]; omega)]

      go_wp2_with fail
      obtain ⟨n, hn⟩ := Int.eq_ofNat_of_zero_le (show 0 ≤ wat zs 2 by omega)
      have hkn : 20 ≤ k ∧ k ≤ n ∧ n ≤ zs.length := by omega
      have HN : Hid (ral true zs = n) := by show _ = _; simp [ral]; omega
      have Hn := hide hn
      rw [hn]
      clear hn

      have d1 := hc 1 (by omega)
      have d8 := hc 8 (by omega)
      have d9 := hc 9 (by omega)
      have hbw4 := hb1.trans (hL4.mono (by omega))
      generalize gz1 : zs[1]?.getD 0 = z1 at *
      generalize gz8 : zs[8]?.getD 0 = z8 at *
      generalize gz9 : zs[9]?.getD 0 = z9 at *
      have G1 := hide gz1
      have G8 := hide gz8
      have G9 := hide gz9
      clear gz1 gz8 gz9
      have i1 : (1 : Int) < zs.length := by omega
      have i8 : (8 : Int) < zs.length := by omega
      have i9 : (9 : Int) < zs.length := by omega
      refine anyR_begin (R := KI w4.heap.size 26 9 (List.toArray [.int .u8 z1, .int .u16 (wat zs 4), .bool (decide (16384 ≤ wat zs 6)), .int .u8 z8, .int .u8 z9, .int .u32 (wat4 zs 12), .int .u32 (wat4 zs 16), .slice none 0 0, .slice none 0 0])) (KI.pre _ _ _ _) (fun w => KI.of (Later.drew w)) 20 rfl (by kernel_rfl) (fun W5 hW5 => ?_)
      have hbel : ∀ w1, KI w4.heap.size 26 9 (List.toArray [.int .u8 z1, .int .u16 (wat zs 4), .bool (decide (16384 ≤ wat zs 6)), .int .u8 z8, .int .u8 z9, .int .u32 (wat4 zs 12), .int .u32 (wat4 zs 16), .slice none 0 0, .slice none 0 0]) W5 w1 → Below w.heap.size w w1 := fun w1 h => hbw4.trans (((hW5.trans h).1.below (Nat.le_refl _) (fun k hk e => by omega)).mono (by omega))
      have hr1 : ∀ w1, KI w4.heap.size 26 9 (List.toArray [.int .u8 z1, .int .u16 (wat zs 4), .bool (decide (16384 ≤ wat zs 6)), .int .u8 z8, .int .u8 z9, .int .u32 (wat4 zs 12), .int .u32 (wat4 zs 16), .slice none 0 0, .slice none 0 0]) W5 w1 → Rd w.heap.size w1 (.slice (some ⟨b, off, none⟩) zs.length cap) zs := fun w1 h => hI.below (hbel w1 h)
      have e1 : ∀ w1, KI w4.heap.size 26 9 (List.toArray [.int .u8 z1, .int .u16 (wat zs 4), .bool (decide (16384 ≤ wat zs 6)), .int .u8 z8, .int .u8 z9, .int .u32 (wat4 zs 12), .int .u32 (wat4 zs 16), .slice none 0 0, .slice none 0 0]) W5 w1 → w1.cell? ⟨b, off + 1, none⟩ = some (.int .u8 z1) := fun w1 h => ((hbel w1 h).cell (p := ⟨b, off + 1, none⟩) hb).trans d1
      have e8 : ∀ w1, KI w4.heap.size 26 9 (List.toArray [.int .u8 z1, .int .u16 (wat zs 4), .bool (decide (16384 ≤ wat zs 6)), .int .u8 z8, .int .u8 z9, .int .u32 (wat4 zs 12), .int .u32 (wat4 zs 16), .slice none 0 0, .slice none 0 0]) W5 w1 → w1.cell? ⟨b, off + 8, none⟩ = some (.int .u8 z8) := fun w1 h => ((hbel w1 h).cell (p := ⟨b, off + 8, none⟩) hb).trans d8
      have e9 : ∀ w1, KI w4.heap.size 26 9 (List.toArray [.int .u8 z1, .int .u16 (wat zs 4), .bool (decide (16384 ≤ wat zs 6)), .int .u8 z8, .int .u8 z9, .int .u32 (wat4 zs 12), .int .u32 (wat4 zs 16), .slice none 0 0, .slice none 0 0]) W5 w1 → w1.cell? ⟨b, off + 9, none⟩ = some (.int .u8 z9) := fun w1 h => ((hbel w1 h).cell (p := ⟨b, off + 9, none⟩) hb).trans d9
      clear d1 d8 d9
      refine anyR_val (KI.pre _ _ _ _) 0 rfl (by kernel_rfl) (by kernel_rfl) (by kernel_rfl) (fun _ _ _ _ h => h) rfl ?_; apply Exists.intro; refine ⟨fun w1 hw1 => ?_, ?_⟩; (· (go_simp; rfl)); simp only [Act.put, List.setIfInBounds_toArray, List.set_cons_zero, List.set_cons_succ]
      refine anyR_val (KI.pre _ _ _ _) 1 rfl (by kernel_rfl) (by kernel_rfl) (by kernel_rfl) (fun _ _ _ _ h => h) rfl ?_; apply Exists.intro; refine ⟨fun w1 hw1 => ?_, ?_⟩; (· (go_simp; rfl)); simp only [Act.put, List.setIfInBounds_toArray, List.set_cons_zero, List.set_cons_succ]
      refine anyR_val (KI.pre _ _ _ _) 2 rfl (by kernel_rfl) (by kernel_rfl) (by kernel_rfl) (fun _ _ _ _ h => h) rfl ?_; apply Exists.intro; refine ⟨fun w1 hw1 => ?_, ?_⟩; (· (go_simp; rfl)); simp only [Act.put, List.setIfInBounds_toArray, List.set_cons_zero, List.set_cons_succ]
      refine anyR_val (KI.pre _ _ _ _) 3 rfl (by kernel_rfl) (by kernel_rfl) (by kernel_rfl) (fun _ _ _ _ h => h) rfl ?_; apply Exists.intro; refine ⟨fun w1 hw1 => ?_, ?_⟩; (· (go_simp; rfl)); simp only [Act.put, List.setIfInBounds_toArray, List.set_cons_zero, List.set_cons_succ]
      refine anyR_take (KI.pre _ _ _ _) 4 (.int .u16 (wat zs 4)) rfl (by kernel_rfl) (by kernel_rfl) (by kernel_rfl) (fun _ _ _ h => h) rfl (fun w1 hw1 => goes_call 53 #[.slice (some ⟨b, off, none⟩) zs.length cap, .int .i64 4] (by go_simp) ?_) ?_
      · exact (rget16_rd _ zs hB 4 (by omega) hl w1 (hr1 w1 hw1)).mono fun e w' ⟨he, hw⟩ => ⟨he, KI.of hw⟩
      simp only [Act.put, List.setIfInBounds_toArray, List.set_cons_zero, List.set_cons_succ]
      refine anyR_val (KI.pre _ _ _ _) 5 rfl (by kernel_rfl) (by kernel_rfl) (by kernel_rfl) (fun _ _ _ _ h => h) rfl ?_; apply Exists.intro; refine ⟨fun w1 hw1 => ?_, ?_⟩; (· (go_simp; rfl)); simp only [Act.put, List.setIfInBounds_toArray, List.set_cons_zero, List.set_cons_succ]
      refine anyR_val (KI.pre _ _ _ _) 6 rfl (by kernel_rfl) (by kernel_rfl) (by kernel_rfl) (fun _ _ _ _ h => h) rfl ?_; apply Exists.intro; refine ⟨fun w1 hw1 => ?_, ?_⟩; (· (go_simp; rfl)); simp only [Act.put, List.setIfInBounds_toArray, List.set_cons_zero, List.set_cons_succ]
      refine anyR_val (KI.pre _ _ _ _) 7 rfl (by kernel_rfl) (by kernel_rfl) (by kernel_rfl) (fun _ _ _ _ h => h) rfl ?_; apply Exists.intro; refine ⟨fun w1 hw1 => ?_, ?_⟩; (· (go_simp; rfl)); simp only [Act.put, List.setIfInBounds_toArray, List.set_cons_zero, List.set_cons_succ]
      refine anyR_val (KI.pre _ _ _ _) 8 rfl (by kernel_rfl) (by kernel_rfl) (by kernel_rfl) (fun _ _ _ _ h => h) rfl ?_; apply Exists.intro; refine ⟨fun w1 hw1 => ?_, ?_⟩; (· (go_simp; rfl)); simp only [Act.put, List.setIfInBounds_toArray, List.set_cons_zero, List.set_cons_succ]
      refine anyR_val (KI.pre _ _ _ _) 9 rfl (by kernel_rfl) (by kernel_rfl) (by kernel_rfl) (fun _ _ _ _ h => h) rfl ?_; apply Exists.intro; refine ⟨fun w1 hw1 => ?_, ?_⟩; (· (go_simp; rfl)); simp only [Act.put, List.setIfInBounds_toArray, List.set_cons_zero, List.set_cons_succ]
      refine anyR_val (KI.pre _ _ _ _) 10 rfl (by kernel_rfl) (by kernel_rfl) (by kernel_rfl) (fun _ _ _ _ h => h) rfl ?_; apply Exists.intro; refine ⟨fun w1 hw1 => ?_, ?_⟩; (· (go_simp; rfl)); simp only [Act.put, List.setIfInBounds_toArray, List.set_cons_zero, List.set_cons_succ]
      refine anyR_val (KI.pre _ _ _ _) 11 rfl (by kernel_rfl) (by kernel_rfl) (by kernel_rfl) (fun _ _ _ _ h => h) rfl ?_; apply Exists.intro; refine ⟨fun w1 hw1 => ?_, ?_⟩; (· (go_simp; rfl)); simp only [Act.put, List.setIfInBounds_toArray, List.set_cons_zero, List.set_cons_succ]
      refine anyR_val (KI.pre _ _ _ _) 12 rfl (by kernel_rfl) (by kernel_rfl) (by kernel_rfl) (fun _ _ _ _ h => h) rfl ?_; apply Exists.intro; refine ⟨fun w1 hw1 => ?_, ?_⟩; (· (go_simp; rfl)); simp only [Act.put, List.setIfInBounds_toArray, List.set_cons_zero, List.set_cons_succ]
      refine anyR_val (KI.pre _ _ _ _) 13 rfl (by kernel_rfl) (by kernel_rfl) (by kernel_rfl) (fun _ _ _ _ h => h) rfl ?_; apply Exists.intro; refine ⟨fun w1 hw1 => ?_, ?_⟩; (· (go_simp; rfl)); simp only [Act.put, List.setIfInBounds_toArray, List.set_cons_zero, List.set_cons_succ]
      refine anyR_take (KI.pre _ _ _ _) 14 (.int .u32 (wat4 zs 12)) rfl (by kernel_rfl) (by kernel_rfl) (by kernel_rfl) (fun _ _ _ h => h) rfl (fun w1 hw1 => goes_call 54 #[.slice (some ⟨b, off, none⟩) zs.length cap, .int .i64 12] (by go_simp) ?_) ?_
      · exact (rget32_rd _ zs hB 12 (by omega) hl w1 (hr1 w1 hw1)).mono fun e w' ⟨he, hw⟩ => ⟨he, KI.of hw⟩
      simp only [Act.put, List.setIfInBounds_toArray, List.set_cons_zero, List.set_cons_succ]
      refine anyR_val (KI.pre _ _ _ _) 15 rfl (by kernel_rfl) (by kernel_rfl) (by kernel_rfl) (fun _ _ _ _ h => h) rfl ?_; apply Exists.intro; refine ⟨fun w1 hw1 => ?_, ?_⟩; (· (go_simp; rfl)); simp only [Act.put, List.setIfInBounds_toArray, List.set_cons_zero, List.set_cons_succ]
      refine anyR_take (KI.pre _ _ _ _) 16 (.int .u32 (wat4 zs 16)) rfl (by kernel_rfl) (by kernel_rfl) (by kernel_rfl) (fun _ _ _ h => h) rfl (fun w1 hw1 => goes_call 54 #[.slice (some ⟨b, off, none⟩) zs.length cap, .int .i64 16] (by go_simp) ?_) ?_
      · exact (rget32_rd _ zs hB 16 (by omega) hl w1 (hr1 w1 hw1)).mono fun e w' ⟨he, hw⟩ => ⟨he, KI.of hw⟩
      simp only [Act.put, List.setIfInBounds_toArray, List.set_cons_zero, List.set_cons_succ]
      refine anyR_val (KI.pre _ _ _ _) 17 rfl (by kernel_rfl) (by kernel_rfl) (by kernel_rfl) (fun _ _ _ _ h => h) rfl ?_; apply Exists.intro; refine ⟨fun w1 hw1 => ?_, ?_⟩; (· (go_simp; rfl)); simp only [Act.put, List.setIfInBounds_toArray, List.set_cons_zero, List.set_cons_succ]

      refine anyR_one 18 rfl (by kernel_rfl) rfl (fun W6 hW6 => ?_)
      have hs6 : w4.heap.size ≤ W6.heap.size := (hW5.trans hW6).1.size
      unfold Oper.wp
      go_simp
      refine ⟨KI.of ((Below.refl _ _).alloc (Nat.le_refl _) _), ?_⟩
      refine anyR_one 19 rfl (by kernel_rfl) rfl (fun W7 hW7 => ?_)
      have hwr : Wr W6.heap.size 9 26 W7 := hW7.2.1 _ ⟨_, heap_alloc_new W6 _, rfl⟩
      have hst := KI.store (n₁ := w4.heap.size) [.int .u8 z1, .int .u16 (wat zs 4), .bool (decide (16384 ≤ wat zs 6)), .int .u8 z8, .int .u8 z9, .int .u32 (wat4 zs 12), .int .u32 (wat4 zs 16), .slice none 0 0, .slice none 0 0] hs6 hwr rfl
      obtain ⟨cur, hcur, hsz⟩ := hwr
      have k7 := block_cell hcur
      have f7 := block_frozen hcur
      have HS := hide hst
      clear hst
      unfold Oper.wp
      go_simp
      generalize hV : ((((((((W7.setCell ⟨W6.heap.size, 0, none⟩ _).setCell ⟨W6.heap.size, 1, none⟩ _).setCell ⟨W6.heap.size, 2, none⟩ _).setCell ⟨W6.heap.size, 3, none⟩ _).setCell ⟨W6.heap.size, 4, none⟩ _).setCell ⟨W6.heap.size, 5, none⟩ _).setCell ⟨W6.heap.size, 6, none⟩ _).setCell ⟨W6.heap.size, 7, none⟩ _).setCell ⟨W6.heap.size, 8, none⟩ _ = V
      have hV9 : V = putRow W7 W6.heap.size 0 [.int .u8 z1, .int .u16 (wat zs 4), .bool (decide (16384 ≤ wat zs 6)), .int .u8 z8, .int .u8 z9, .int .u32 (wat4 zs 12), .int .u32 (wat4 zs 16), .slice none 0 0, .slice none 0 0] := hV.symm
      have hst := HS.out
      rw [← hV9] at hst
      clear hV hV9 HS k7 f7
      refine ⟨hst.1, anyR_done (by kernel_rfl) (fun W8 hW8 => ?_)⟩
      have p8 := hW8.2.2 _ hst.2
      have hwW8 : Below w.heap.size w W8 := hbel W8 (((hW6.trans (KI.of ((Below.refl _ _).alloc (Nat.le_refl _) _))).trans hW7).trans (hst.1.trans hW8))
      have hq8 : w.heap.size < W6.heap.size := by omega
      have pw8 : Wr w.heap.size 9 26 W8 := hW8.2.1 _ (hst.1.2.1 _ (hW7.2.1 _ ((KI.of ((Below.refl W6.heap.size W6).alloc (Nat.le_refl _) _) : KI w4.heap.size 26 9 (List.toArray [.int .u8 z1, .int .u16 (wat zs 4), .bool (decide (16384 ≤ wat zs 6)), .int .u8 z8, .int .u8 z9, .int .u32 (wat4 zs 12), .int .u32 (wat4 zs 16), .slice none 0 0, .slice none 0 0]) W6 _).2.1 _ (hW6.2.1 _ (hW5.2.1 _ ⟨_, (hL4.block w.heap.size (by omega)).trans p1, rfl⟩)))))
      generalize W6.heap.size = pb at *
      clear hbel hr1 e1 e8 e9 hst hW7 hW6 hs6 hcur hsz hW8
      have hs8 := (Array.getElem?_eq_some_iff.1 p8).1
      have P8 := block_cell p8
      go_wp2_with fail
      have hR8 := (((hI.below hwW8).take k (by omega)).cutAt 20 (by omega)).drew 1
      obtain ⟨v9, W9, hrun9, hown9, hgr9⟩ := run_app (P := Tryd.prog) W8.drew 24 24 5 (pb + 1) i0 Tryd.underlying24 hi hz0 hz1 hz2 (.slice none 0 0) [] (World.ownsRow_nil _ _ _ _) w.heap.size _ ((zs.take k).drop 20) hR8 (by simp; omega) hs8
      have hl9 : Later W8 W9 := Later.trans (Later.drew W8) ((Below.refl _ W8.drew).grown hgr9 (Nat.le_refl _) (fun _ e => by cases e))
      have hO9 := Ow.of_row hown9
      rw [List.nil_append] at hO9
      obtain ⟨a9, cap9, rfl, hq9, hm9⟩ := hO9.slice
      clear hown9 hgr9 hR8
      have p9 := (hl9.block pb hs8).trans p8
      have P9 := block_cell p9
      have F9 := block_frozen p9
      have hLo : Hid (((zs.take k).drop 20).length = k - 20) := by show _ = _; simp; omega
      rw [hLo.out] at hrun9 hO9
      have i20 : (20 : Int) ≤ k := by omega
      go_region_law (refine step_run rfl (.tmp 92) (.tmp 95) 24 rfl _ _ rfl rfl _ W9 hrun9 ?_)
      clear hrun9 P8 P9 F9
      generalize (if cap = 20 then some (⟨b, off, none⟩ : Addr) else some ⟨b, off + 20, none⟩) = ad20 at *
      have p10 : (W9.setCell ⟨pb, 7, none⟩ (.slice a9 (k - 20) cap9)).heap[pb]? = some (.cells (List.toArray [.int .u8 z1, .int .u16 (wat zs 4), .bool (decide (16384 ≤ wat zs 6)), .int .u8 z8, .int .u8 z9, .int .u32 (wat4 zs 12), .int .u32 (wat4 zs 16), .slice a9 (k - 20) cap9, .slice none 0 0]) 26 (0, 0)) := heap_set1 p9 7 (.slice a9 (k - 20) cap9)
      have hE9 : But (fun b => b = pb) W9 (W9.setCell ⟨pb, 7, none⟩ (.slice a9 (k - 20) cap9)) := (But.refl (fun b => b = pb) W9).setCell (p := ⟨pb, 7, none⟩) (E := fun b => b = pb) rfl _
      have hO10 := hO9.but hE9 (fun b h e => by omega)
      have hw10 : Below w.heap.size w _ := (hwW8.trans (hl9.mono hwW8.size)).setCell (p := ⟨pb, 7, none⟩) (Nat.le_of_lt hq8) (.slice a9 (k - 20) cap9)
      have pw10 : Wr w.heap.size 9 26 (W9.setCell ⟨pb, 7, none⟩ (.slice a9 (k - 20) cap9)) := by
        obtain ⟨c, h1, h2⟩ := pw8.later hl9
        exact ⟨c, (hE9.block _ (Array.getElem?_eq_some_iff.1 h1).1 (by omega)).trans h1, h2⟩
      generalize W9.setCell ⟨pb, 7, none⟩ (.slice a9 (k - 20) cap9) = W10 at *
      clear hO9 p9 hE9 hl9 hwW8 pw8
      have hs10 := (Array.getElem?_eq_some_iff.1 p10).1
      have P10 := block_cell p10
      go_wp2_with fail
      have hR10 := (((hI.below hw10).take n (by omega)).cutAt k (by omega)).drew 1
      obtain ⟨v11, W11, hrun11, hown11, hgr11⟩ := run_app (P := Tryd.prog) W10.drew 24 24 5 (pb + 1) i0 Tryd.underlying24 hi hz0 hz1 hz2 (.slice none 0 0) [] (World.ownsRow_nil _ _ _ _) w.heap.size _ ((zs.take n).drop k) hR10 (by simp; omega) hs10
      have hl11 : Later W10 W11 := Later.trans (Later.drew W10) ((Below.refl _ W10.drew).grown hgr11 (Nat.le_refl _) (fun _ e => by cases e))
      have hO11 := Ow.of_row hown11
      rw [List.nil_append] at hO11
      obtain ⟨a11, cap11, rfl, hq11, hm11⟩ := hO11.slice
      clear hown11 hgr11 hR10
      have p11 := (hl11.block pb hs10).trans p10
      have P11 := block_cell p11
      have F11 := block_frozen p11
      have hLd : Hid (((zs.take n).drop k).length = n - k) := by show _ = _; simp; try omega
      rw [hLd.out] at hrun11 hO11
      have ikn : (k : Int) ≤ n := by omega
      have inc : n ≤ cap := by omega
      have inc2 : (n : Int) ≤ cap := by omega
      go_region_law (refine step_run rfl (.tmp 99) (.tmp 103) 24 rfl _ _ rfl rfl _ W11 hrun11 ?_)
      clear hrun11 P10 P11 F11
      generalize (if cap = k then some (⟨b, off, none⟩ : Addr) else some ⟨b, off + k, none⟩) = adk at *
      have p12 : (W11.setCell ⟨pb, 8, none⟩ (.slice a11 (n - k) cap11)).heap[pb]? = some (.cells (List.toArray [.int .u8 z1, .int .u16 (wat zs 4), .bool (decide (16384 ≤ wat zs 6)), .int .u8 z8, .int .u8 z9, .int .u32 (wat4 zs 12), .int .u32 (wat4 zs 16), .slice a9 (k - 20) cap9, .slice a11 (n - k) cap11]) 26 (0, 0)) := heap_set1 p11 8 (.slice a11 (n - k) cap11)
      have hE11 : But (fun b => b = pb) W11 (W11.setCell ⟨pb, 8, none⟩ (.slice a11 (n - k) cap11)) := (But.refl (fun b => b = pb) W11).setCell (p := ⟨pb, 8, none⟩) (E := fun b => b = pb) rfl _
      have hO12 := hO11.but hE11 (fun b h e => by omega)
      have hO13 := (hO10.below hl11 (Nat.le_refl _)).but hE11 (fun b h e => by omega)
      have hw12 : Below w.heap.size w _ := (hw10.trans (hl11.mono hw10.size)).setCell (p := ⟨pb, 8, none⟩) (Nat.le_of_lt hq8) (.slice a11 (n - k) cap11)
      have pw12 : Wr w.heap.size 9 26 (W11.setCell ⟨pb, 8, none⟩ (.slice a11 (n - k) cap11)) := by
        obtain ⟨c, h1, h2⟩ := pw10.later hl11
        exact ⟨c, (hE11.block _ (Array.getElem?_eq_some_iff.1 h1).1 (by omega)).trans h1, h2⟩
      generalize W11.setCell ⟨pb, 8, none⟩ (.slice a11 (n - k) cap11) = W12 at *
      clear hO11 p11 hE11 hl11 hw10 pw10 hO10
      have P12 := block_cell p12
      obtain ⟨cur, hcur, hsz⟩ := pw12
      have C12 := block_cell hcur
      have F12 := block_frozen hcur
      go_wp2_with fail
      generalize hV : ((((((((W12.setCell ⟨w.heap.size, 0, none⟩ _).setCell ⟨w.heap.size, 1, none⟩ _).setCell ⟨w.heap.size, 2, none⟩ _).setCell ⟨w.heap.size, 3, none⟩ _).setCell ⟨w.heap.size, 4, none⟩ _).setCell ⟨w.heap.size, 5, none⟩ _).setCell ⟨w.heap.size, 6, none⟩ _).setCell ⟨w.heap.size, 7, none⟩ _).setCell ⟨w.heap.size, 8, none⟩ _ = V
      have hV9 : V = putRow W12 w.heap.size 0 [.int .u8 z1, .int .u16 (wat zs 4), .bool (decide (16384 ≤ wat zs 6)), .int .u8 z8, .int .u8 z9, .int .u32 (wat4 zs 12), .int .u32 (wat4 zs 16), .slice a9 (k - 20) cap9, .slice a11 (n - k) cap11] := hV.symm
      have hb13 : But (fun b => b = w.heap.size) W12 V := by rw [hV9]; exact putRow_but (E := fun b => b = w.heap.size) (n := w.heap.size) rfl _ _ _ _ (But.refl _ _)
      have p13 := putRow_all [.int .u8 z1, .int .u16 (wat zs 4), .bool (decide (16384 ≤ wat zs 6)), .int .u8 z8, .int .u8 z9, .int .u32 (wat4 zs 12), .int .u32 (wat4 zs 16), .slice a9 (k - 20) cap9, .slice a11 (n - k) cap11] hcur (by simpa using hsz)
      rw [← hV9] at p13
      have hd : decide (16384 ≤ wat zs 6 % 32768) = decide (16384 ≤ wat zs 6) := by rw [Int.emod_eq_of_lt (by omega) (by omega)]
      have hpk : pkt zs (.slice a9 (k - 20) cap9) (.slice a11 (n - k) cap11) = .agg (List.toArray [.int .u8 z1, .int .u16 (wat zs 4), .bool (decide (16384 ≤ wat zs 6)), .int .u8 z8, .int .u8 z9, .int .u32 (wat4 zs 12), .int .u32 (wat4 zs 16), .slice a9 (k - 20) cap9, .slice a11 (n - k) cap11]) := by unfold pkt; rw [G1.out, G8.out, G9.out, hd]
      refine bodyPost_ret (v := .tuple #[pkt zs (.slice a9 (k - 20) cap9) (.slice a11 (n - k) cap11), .int .i64 0]) (by rw [hpk]; exact res_rread _ w.heap.size 0 _ _ _ _ _ _ _ _ _ V rfl rfl p13) rfl ⟨hw12.trans (hb13.below hw12.size (fun j h e => by omega)), .inr ⟨HR.out, _, _, rfl, ?_, ?_⟩⟩
      · rw [HK.out, Int.toNat_natCast]
        exact (hO13.but hb13 (fun b h e => by omega)).mono (by omega)
      · rw [HK.out, HN.out, Int.toNat_natCast, Int.toNat_natCast]
        exact (hO12.but hb13 (fun b h e => by omega)).mono (by omega)
end Go.Proofs.YtojoaidnkljcpaaDoor

/- The document's Parse and Quote. -/
namespace Go.Proofs.YtojoaidnkljcpaaDoor
open Go.RowKit Go.Shelf
set_option maxRecDepth 100000
set_option linter.unusedVariables false
set_option linter.unusedSimpArgs false

set_option maxHeartbeats 1000000 in
theorem rquote_any (sv : Value) (zs : List Int) (w : World) (hB : Mt.By zs) (hl : zs.length ≤ 140737488355328) (hI : Rd w.heap.size w sv zs) :
    Calls Tryd.prog 62 #[sv] w fun e w' => Below w.heap.size w w' ∧
      ((rde true zs ≠ 0 ∧ e = .returned (.tuple #[.agg zc.toArray, .int .i64 (rde true zs)])) ∨
       (rde true zs = 0 ∧ ∃ so sd, e = .returned (.tuple #[pkt zs so sd, .int .i64 0]) ∧ Ow w.heap.size w' so ((zs.take (hl4 zs).toNat).drop 20) ∧ Ow w.heap.size w' sd ((zs.take (ral true zs).toNat).drop (hl4 zs).toNat))) := by
  obtain ⟨a, cap, rfl, hl1, hm1⟩ := hI.slice
  have hb1 : Below w.heap.size w (w.alloc (.cells zc.toArray 26)) := (Below.refl _ _).alloc (Nat.le_refl _) _
  have p1 := heap_alloc_new w (.cells zc.toArray 26)
  have H := hide (rread_any true _ zs (w.alloc (.cells zc.toArray 26)) hB hl ((hI.below hb1).mono (by simp)))
  go_enter Tryd.func62, Tryd.ntmps62
  go_wp2_with fail
  refine H.out.mono ?_
  rintro e w2 ⟨hb2, ⟨h, rfl⟩ | ⟨h, so, sd, rfl, hO1, hO2⟩⟩
  · have p2 := (hb2.block w.heap.size (by simp)).trans p1
    have P2 := block_cell p2
    have F2 := block_frozen p2
    go_wp2_with fail
    generalize hV : ((((((((w2.setCell ⟨w.heap.size, 0, none⟩ _).setCell ⟨w.heap.size, 1, none⟩ _).setCell ⟨w.heap.size, 2, none⟩ _).setCell ⟨w.heap.size, 3, none⟩ _).setCell ⟨w.heap.size, 4, none⟩ _).setCell ⟨w.heap.size, 5, none⟩ _).setCell ⟨w.heap.size, 6, none⟩ _).setCell ⟨w.heap.size, 7, none⟩ _).setCell ⟨w.heap.size, 8, none⟩ _ = V
    have hV9 : V = putRow w2 w.heap.size 0 zc := hV.symm
    have hb8 : But (fun b => b = w.heap.size) w2 V := by rw [hV9]; exact putRow_but (E := fun b => b = w.heap.size) (n := w.heap.size) rfl _ _ _ _ (But.refl _ _)
    have p8 := putRow_all zc p2 rfl
    rw [← hV9] at p8
    clear hV hV9 P2 F2 H
    have P8 := block_cell p8
    have hbW := (hb1.trans (hb2.mono (by simp))).trans (hb8.below (by have := hb2.size; simp at this; omega) (fun j h e => by omega))
    exact bodyPost_ret (v := .tuple #[.agg zc.toArray, .int .i64 (rde true zs)]) (by simp [results, Tryd.results62, go_sem, P8]) rfl ⟨hbW, .inl ⟨h, rfl⟩⟩
  · have p2 := (hb2.block w.heap.size (by simp)).trans p1
    have P2 := block_cell p2
    have F2 := block_frozen p2
    obtain ⟨aso, cso, rfl, _, _⟩ := hO1.slice
    obtain ⟨asd, csd, rfl, _, _⟩ := hO2.slice
    generalize hL1 : ((zs.take (hl4 zs).toNat).drop 20).length = lo at *
    generalize hL2 : ((zs.take (ral true zs).toNat).drop (hl4 zs).toNat).length = ld at *
    have HL1 := hide hL1
    have HL2 := hide hL2
    clear hL1 hL2
    unfold pkt
    go_wp2_with fail
    generalize hV : ((((((((w2.setCell ⟨w.heap.size, 0, none⟩ _).setCell ⟨w.heap.size, 1, none⟩ _).setCell ⟨w.heap.size, 2, none⟩ _).setCell ⟨w.heap.size, 3, none⟩ _).setCell ⟨w.heap.size, 4, none⟩ _).setCell ⟨w.heap.size, 5, none⟩ _).setCell ⟨w.heap.size, 6, none⟩ _).setCell ⟨w.heap.size, 7, none⟩ _).setCell ⟨w.heap.size, 8, none⟩ _ = V
    have hV9 : V = putRow w2 w.heap.size 0 [.int .u8 (zs[1]?.getD 0), .int .u16 (wat zs 4), .bool (decide (16384 ≤ wat zs 6 % 32768)), .int .u8 (zs[8]?.getD 0), .int .u8 (zs[9]?.getD 0), .int .u32 (wat4 zs 12), .int .u32 (wat4 zs 16), .slice aso lo cso, .slice asd ld csd] := hV.symm
    have hb8 : But (fun b => b = w.heap.size) w2 V := by rw [hV9]; exact putRow_but (E := fun b => b = w.heap.size) (n := w.heap.size) rfl _ _ _ _ (But.refl _ _)
    have p8 := putRow_all [.int .u8 (zs[1]?.getD 0), .int .u16 (wat zs 4), .bool (decide (16384 ≤ wat zs 6 % 32768)), .int .u8 (zs[8]?.getD 0), .int .u8 (zs[9]?.getD 0), .int .u32 (wat4 zs 12), .int .u32 (wat4 zs 16), .slice aso lo cso, .slice asd ld csd] p2 rfl
    rw [← hV9] at p8
    clear hV hV9 P2 F2 H
    have P8 := block_cell p8
    have hbW := (hb1.trans (hb2.mono (by simp))).trans (hb8.below (by have := hb2.size; simp at this; omega) (fun j h e => by omega))
    exact bodyPost_ret (v := .tuple #[pkt zs (.slice aso lo cso) (.slice asd ld csd), .int .i64 0]) (by simp [results, Tryd.results62, go_sem, P8, pkt]) rfl ⟨hbW, .inr ⟨h, _, _, rfl, (hO1.but hb8 (fun b h e => by simp at h; omega)).mono (by simp), (hO2.but hb8 (fun b h e => by simp at h; omega)).mono (by simp)⟩⟩

end Go.Proofs.YtojoaidnkljcpaaDoor

/- The document's Inner: where it refuses; segments and datagrams. -/
namespace Go.Proofs.YtojoaidnkljcpaaDoor
open Go.RowKit Go.Shelf
set_option maxRecDepth 100000
set_option linter.unusedVariables false
set_option linter.unusedSimpArgs false

def rin (v : Value) (c : Int) (e : Ending) : Prop := ∃ (y0 y1 : Int) (y2 : Bool) (y3 y4 y5 y6 : Int) (y7 : Option Addr) (m7 d7 : Nat) (y8 : Option Addr) (m8 d8 : Nat), e = .returned (.tuple #[.agg #[.int .u8 y0, .int .u16 y1, .bool y2, .int .u8 y3, .int .u8 y4, .int .u32 y5, .int .u32 y6, .slice y7 m7 d7, .slice y8 m8 d8], v, .int .i64 c])
theorem rin_mk (y0 y1 : Int) (y2 : Bool) (y3 y4 y5 y6 : Int) (y7 : Option Addr) (m7 d7 : Nat) (y8 : Option Addr) (m8 d8 : Nat) (v : Value) (c : Int) : rin v c (.returned (.tuple #[.agg #[.int .u8 y0, .int .u16 y1, .bool y2, .int .u8 y3, .int .u8 y4, .int .u32 y5, .int .u32 y6, .slice y7 m7 d7, .slice y8 m8 d8], v, .int .i64 c])) := ⟨_, _, _, _, _, _, _, _, _, _, _, _, _, rfl⟩

set_option maxHeartbeats 4000000 in
theorem rinner_kind (proto : Int) (tos id ttl src dst : Int) (keep : Bool) (so sd : Value) (zd : List Int) (w : World) (hB : Mt.By zd) (hI : Rd w.heap.size w sd zd) (hl : zd.length ≤ 1099511627776) (hp : proto ≠ 1) : Calls Tryd.prog 35 #[.agg #[.int .u8 tos, .int .u16 id, .bool keep, .int .u8 ttl, .int .u8 proto, .int .u32 src, .int .u32 dst, so, sd]] w fun e w' => Below w.heap.size w w' ∧ rin (.agg #[.int .u8 0, .int .u32 0, .int .u32 0, .int .u16 0, .int .u16 0]) 12 e := by
  have hne : (proto != 1) = true := by simp [hp]
  clear hp
  obtain ⟨ad, cd, rfl, _, _⟩ := hI.slice
  have hb0 : Below w.heap.size w (((w.alloc (.cells #[.int .u8 tos, .int .u16 id, .bool keep, .int .u8 ttl, .int .u8 proto, .int .u32 src, .int .u32 dst, so, .slice ad zd.length cd] 26)).alloc (.cells #[.int .u8 0, .int .u16 0, .bool false, .int .u8 0, .int .u8 0, .int .u32 0, .int .u32 0, .slice none 0 0, .slice none 0 0] 26)).alloc (.cells #[.int .u8 0, .int .u32 0, .int .u32 0, .int .u16 0, .int .u16 0] 28)) := ((((Below.refl _ _).alloc (Nat.le_refl _) _).alloc (by simp) _).alloc (by simp <;> omega) _)
  have r0 : (((w.alloc (.cells #[.int .u8 tos, .int .u16 id, .bool keep, .int .u8 ttl, .int .u8 proto, .int .u32 src, .int .u32 dst, so, .slice ad zd.length cd] 26)).alloc (.cells #[.int .u8 0, .int .u16 0, .bool false, .int .u8 0, .int .u8 0, .int .u32 0, .int .u32 0, .slice none 0 0, .slice none 0 0] 26)).alloc (.cells #[.int .u8 0, .int .u32 0, .int .u32 0, .int .u16 0, .int .u16 0] 28)).heap[w.heap.size + 1]? = some (.cells #[.int .u8 0, .int .u16 0, .bool false, .int .u8 0, .int .u8 0, .int .u32 0, .int .u32 0, .slice none 0 0, .slice none 0 0] 26) := by
    have := heap_alloc_new (w.alloc (.cells #[.int .u8 tos, .int .u16 id, .bool keep, .int .u8 ttl, .int .u8 proto, .int .u32 src, .int .u32 dst, so, .slice ad zd.length cd] 26)) (.cells #[.int .u8 0, .int .u16 0, .bool false, .int .u8 0, .int .u8 0, .int .u32 0, .int .u32 0, .slice none 0 0, .slice none 0 0] 26)
    rw [World.size_alloc] at this
    exact (Below.heap_alloc _ _ _ (by simp)).trans this
  have s0 : (((w.alloc (.cells #[.int .u8 tos, .int .u16 id, .bool keep, .int .u8 ttl, .int .u8 proto, .int .u32 src, .int .u32 dst, so, .slice ad zd.length cd] 26)).alloc (.cells #[.int .u8 0, .int .u16 0, .bool false, .int .u8 0, .int .u8 0, .int .u32 0, .int .u32 0, .slice none 0 0, .slice none 0 0] 26)).alloc (.cells #[.int .u8 0, .int .u32 0, .int .u32 0, .int .u16 0, .int .u16 0] 28)).heap[w.heap.size + 1 + 1]? = some (.cells #[.int .u8 0, .int .u32 0, .int .u32 0, .int .u16 0, .int .u16 0] 28) := by
    have := heap_alloc_new ((w.alloc (.cells #[.int .u8 tos, .int .u16 id, .bool keep, .int .u8 ttl, .int .u8 proto, .int .u32 src, .int .u32 dst, so, .slice ad zd.length cd] 26)).alloc (.cells #[.int .u8 0, .int .u16 0, .bool false, .int .u8 0, .int .u8 0, .int .u32 0, .int .u32 0, .slice none 0 0, .slice none 0 0] 26)) (.cells #[.int .u8 0, .int .u32 0, .int .u32 0, .int .u16 0, .int .u16 0] 28)
    simpa only [World.size_alloc] using this
  have R0 := hide r0
  have S0 := hide s0
  clear r0 s0
  go_enter Tryd.func35, Tryd.ntmps35
  go_upto_region 2 with fail
  generalize (((w.alloc (.cells #[.int .u8 tos, .int .u16 id, .bool keep, .int .u8 ttl, .int .u8 proto, .int .u32 src, .int .u32 dst, so, .slice ad zd.length cd] 26)).alloc (.cells #[.int .u8 0, .int .u16 0, .bool false, .int .u8 0, .int .u8 0, .int .u32 0, .int .u32 0, .slice none 0 0, .slice none 0 0] 26)).alloc (.cells #[.int .u8 0, .int .u32 0, .int .u32 0, .int .u16 0, .int .u16 0] 28)) = w0 at *
  have rX := R0.out
  have sX := S0.out
  have hwX := hb0
  have kX := block_cell rX
  have fX := block_frozen rX
  have kS := block_cell sX
  have fS := block_frozen sX
  go_wp2_with fail
  generalize hV : (((((((((((((w0.setCell ⟨w.heap.size + 1, 0, none⟩ _).setCell ⟨w.heap.size + 1, 1, none⟩ _).setCell ⟨w.heap.size + 1, 2, none⟩ _).setCell ⟨w.heap.size + 1, 3, none⟩ _).setCell ⟨w.heap.size + 1, 4, none⟩ _).setCell ⟨w.heap.size + 1, 5, none⟩ _).setCell ⟨w.heap.size + 1, 6, none⟩ _).setCell ⟨w.heap.size + 1, 7, none⟩ _).setCell ⟨w.heap.size + 1, 8, none⟩ _).setCell ⟨w.heap.size + 1 + 1, 0, none⟩ _).setCell ⟨w.heap.size + 1 + 1, 1, none⟩ _).setCell ⟨w.heap.size + 1 + 1, 2, none⟩ _).setCell ⟨w.heap.size + 1 + 1, 3, none⟩ _).setCell ⟨w.heap.size + 1 + 1, 4, none⟩ _ = V
  have hV8 : V = putRow (putRow w0 (w.heap.size + 1) 0 [.int .u8 0, .int .u16 0, .bool false, .int .u8 0, .int .u8 0, .int .u32 0, .int .u32 0, .slice none 0 0, .slice none 0 0]) (w.heap.size + 1 + 1) 0 [.int .u8 0, .int .u32 0, .int .u32 0, .int .u16 0, .int .u16 0] := hV.symm
  have hbY : But (fun b => b = w.heap.size + 1) w0 (putRow w0 (w.heap.size + 1) 0 [.int .u8 0, .int .u16 0, .bool false, .int .u8 0, .int .u8 0, .int .u32 0, .int .u32 0, .slice none 0 0, .slice none 0 0]) := putRow_but (E := fun b => b = w.heap.size + 1) (n := w.heap.size + 1) rfl _ _ _ _ (But.refl _ _)
  have pY := putRow_all ([.int .u8 0, .int .u16 0, .bool false, .int .u8 0, .int .u8 0, .int .u32 0, .int .u32 0, .slice none 0 0, .slice none 0 0] : List Value) rX rfl
  have sY := (hbY.block (w.heap.size + 1 + 1) (Array.getElem?_eq_some_iff.1 sX).1 (by omega)).trans sX
  generalize putRow w0 (w.heap.size + 1) 0 [.int .u8 0, .int .u16 0, .bool false, .int .u8 0, .int .u8 0, .int .u32 0, .int .u32 0, .slice none 0 0, .slice none 0 0] = Y at *
  have hbV : But (fun b => b = w.heap.size + 1 + 1) Y V := by rw [hV8]; exact putRow_but (E := fun b => b = w.heap.size + 1 + 1) (n := w.heap.size + 1 + 1) rfl _ _ _ _ (But.refl _ _)
  have qV := putRow_all ([.int .u8 0, .int .u32 0, .int .u32 0, .int .u16 0, .int .u16 0] : List Value) sY rfl
  rw [← hV8] at qV
  have pV := (hbV.block (w.heap.size + 1) (Array.getElem?_eq_some_iff.1 pY).1 (by omega)).trans pY
  clear hV8 kX fX kS fS
  have PV := block_cell pV
  have QV := block_cell qV
  have hwV : Below w.heap.size w V := (hwX.trans (hbY.below hwX.size (fun k hk e => by omega))).trans (hbV.below (Nat.le_trans hwX.size hbY.size) (fun k hk e => by omega))
  exact bodyPost_ret (v := .tuple #[.agg #[.int .u8 0, .int .u16 0, .bool false, .int .u8 0, .int .u8 0, .int .u32 0, .int .u32 0, .slice none 0 0, .slice none 0 0], .agg #[.int .u8 0, .int .u32 0, .int .u32 0, .int .u16 0, .int .u16 0], .int .i64 12]) (by simp [results, Tryd.results35, go_sem, PV, QV]) rfl ⟨hwV, rin_mk _ _ _ _ _ _ _ _ _ _ _ _ _ _ _⟩

set_option maxHeartbeats 4000000 in
theorem rinner_bad (tos id ttl src dst : Int) (keep : Bool) (so sd : Value) (zd : List Int) (w : World) (hB : Mt.By zd) (hI : Rd w.heap.size w sd zd) (hl : zd.length ≤ 1099511627776) (hbad : pie 1 zd ≠ 0 ∨ erb (zd[0]?.getD 0) = false ∨ rde true (zd.drop 8) ≠ 0) : Calls Tryd.prog 35 #[.agg #[.int .u8 tos, .int .u16 id, .bool keep, .int .u8 ttl, .int .u8 1, .int .u32 src, .int .u32 dst, so, sd]] w fun e w' => Below w.heap.size w w' ∧ rin (.agg #[.int .u8 0, .int .u32 0, .int .u32 0, .int .u16 0, .int .u16 0]) (que 1 zd) e := by
  obtain ⟨ad, cd, rfl, _, _⟩ := hI.slice
  have hb0 : Below w.heap.size w (((w.alloc (.cells #[.int .u8 tos, .int .u16 id, .bool keep, .int .u8 ttl, .int .u8 1, .int .u32 src, .int .u32 dst, so, .slice ad zd.length cd] 26)).alloc (.cells #[.int .u8 0, .int .u16 0, .bool false, .int .u8 0, .int .u8 0, .int .u32 0, .int .u32 0, .slice none 0 0, .slice none 0 0] 26)).alloc (.cells #[.int .u8 0, .int .u32 0, .int .u32 0, .int .u16 0, .int .u16 0] 28)) := ((((Below.refl _ _).alloc (Nat.le_refl _) _).alloc (by simp) _).alloc (by simp <;> omega) _)
  have r0 : (((w.alloc (.cells #[.int .u8 tos, .int .u16 id, .bool keep, .int .u8 ttl, .int .u8 1, .int .u32 src, .int .u32 dst, so, .slice ad zd.length cd] 26)).alloc (.cells #[.int .u8 0, .int .u16 0, .bool false, .int .u8 0, .int .u8 0, .int .u32 0, .int .u32 0, .slice none 0 0, .slice none 0 0] 26)).alloc (.cells #[.int .u8 0, .int .u32 0, .int .u32 0, .int .u16 0, .int .u16 0] 28)).heap[w.heap.size + 1]? = some (.cells #[.int .u8 0, .int .u16 0, .bool false, .int .u8 0, .int .u8 0, .int .u32 0, .int .u32 0, .slice none 0 0, .slice none 0 0] 26) := by
    have := heap_alloc_new (w.alloc (.cells #[.int .u8 tos, .int .u16 id, .bool keep, .int .u8 ttl, .int .u8 1, .int .u32 src, .int .u32 dst, so, .slice ad zd.length cd] 26)) (.cells #[.int .u8 0, .int .u16 0, .bool false, .int .u8 0, .int .u8 0, .int .u32 0, .int .u32 0, .slice none 0 0, .slice none 0 0] 26)
    rw [World.size_alloc] at this
    exact (Below.heap_alloc _ _ _ (by simp)).trans this
  have s0 : (((w.alloc (.cells #[.int .u8 tos, .int .u16 id, .bool keep, .int .u8 ttl, .int .u8 1, .int .u32 src, .int .u32 dst, so, .slice ad zd.length cd] 26)).alloc (.cells #[.int .u8 0, .int .u16 0, .bool false, .int .u8 0, .int .u8 0, .int .u32 0, .int .u32 0, .slice none 0 0, .slice none 0 0] 26)).alloc (.cells #[.int .u8 0, .int .u32 0, .int .u32 0, .int .u16 0, .int .u16 0] 28)).heap[w.heap.size + 1 + 1]? = some (.cells #[.int .u8 0, .int .u32 0, .int .u32 0, .int .u16 0, .int .u16 0] 28) := by
    have := heap_alloc_new ((w.alloc (.cells #[.int .u8 tos, .int .u16 id, .bool keep, .int .u8 ttl, .int .u8 1, .int .u32 src, .int .u32 dst, so, .slice ad zd.length cd] 26)).alloc (.cells #[.int .u8 0, .int .u16 0, .bool false, .int .u8 0, .int .u8 0, .int .u32 0, .int .u32 0, .slice none 0 0, .slice none 0 0] 26)) (.cells #[.int .u8 0, .int .u32 0, .int .u32 0, .int .u16 0, .int .u16 0] 28)
    simpa only [World.size_alloc] using this
  have R0 := hide r0
  have S0 := hide s0
  clear r0 s0
  go_enter Tryd.func35, Tryd.ntmps35
  go_wp2_with fail
  generalize (((w.alloc (.cells #[.int .u8 tos, .int .u16 id, .bool keep, .int .u8 ttl, .int .u8 1, .int .u32 src, .int .u32 dst, so, .slice ad zd.length cd] 26)).alloc (.cells #[.int .u8 0, .int .u16 0, .bool false, .int .u8 0, .int .u8 0, .int .u32 0, .int .u32 0, .slice none 0 0, .slice none 0 0] 26)).alloc (.cells #[.int .u8 0, .int .u32 0, .int .u32 0, .int .u16 0, .int .u16 0] 28)) = w0 at *
  refine (rparseIcmp_any tos id ttl 1 src dst keep _ _ zd w0 hB ((hI.below hb0).mono hb0.size) hl).mono ?_
  rintro e w1 ⟨hb1, ⟨hf, rfl⟩ | ⟨hf, a1, c1, rfl, hO⟩⟩
  · rw [show zm.toArray = #[.int .u8 0, .int .u8 0, .int .u32 0, .slice none 0 0] from rfl]
    have HQ : Hid (que 1 zd = pie 1 zd) := if_pos hf
    generalize hpu : pie 1 zd = f at *
    have hne : (f != 0) = true := by simp [hf]
    clear hpu hf hbad
    have la : Later w1 (w1.alloc (.cells #[.int .u8 0, .int .u8 0, .int .u32 0, .slice none 0 0] 49)) := (Below.refl _ _).alloc (Nat.le_refl _) _
    have l1 := Later.trans hb1 la
    have rX := later_keep l1 R0.out
    have sX := later_keep l1 S0.out
    have hwX := hb0.trans (l1.mono hb0.size)
    have kX := block_cell rX
    have fX := block_frozen rX
    have kS := block_cell sX
    have fS := block_frozen sX
    go_wp2_with fail
    generalize w1.alloc (.cells #[.int .u8 0, .int .u8 0, .int .u32 0, .slice none 0 0] 49) = W at *
    generalize hV : (((((((((((((W.setCell ⟨w.heap.size + 1, 0, none⟩ _).setCell ⟨w.heap.size + 1, 1, none⟩ _).setCell ⟨w.heap.size + 1, 2, none⟩ _).setCell ⟨w.heap.size + 1, 3, none⟩ _).setCell ⟨w.heap.size + 1, 4, none⟩ _).setCell ⟨w.heap.size + 1, 5, none⟩ _).setCell ⟨w.heap.size + 1, 6, none⟩ _).setCell ⟨w.heap.size + 1, 7, none⟩ _).setCell ⟨w.heap.size + 1, 8, none⟩ _).setCell ⟨w.heap.size + 1 + 1, 0, none⟩ _).setCell ⟨w.heap.size + 1 + 1, 1, none⟩ _).setCell ⟨w.heap.size + 1 + 1, 2, none⟩ _).setCell ⟨w.heap.size + 1 + 1, 3, none⟩ _).setCell ⟨w.heap.size + 1 + 1, 4, none⟩ _ = V
    have hV8 : V = putRow (putRow W (w.heap.size + 1) 0 [.int .u8 0, .int .u16 0, .bool false, .int .u8 0, .int .u8 0, .int .u32 0, .int .u32 0, .slice none 0 0, .slice none 0 0]) (w.heap.size + 1 + 1) 0 [.int .u8 0, .int .u32 0, .int .u32 0, .int .u16 0, .int .u16 0] := hV.symm
    have hbY : But (fun b => b = w.heap.size + 1) W (putRow W (w.heap.size + 1) 0 [.int .u8 0, .int .u16 0, .bool false, .int .u8 0, .int .u8 0, .int .u32 0, .int .u32 0, .slice none 0 0, .slice none 0 0]) := putRow_but (E := fun b => b = w.heap.size + 1) (n := w.heap.size + 1) rfl _ _ _ _ (But.refl _ _)
    have pY := putRow_all ([.int .u8 0, .int .u16 0, .bool false, .int .u8 0, .int .u8 0, .int .u32 0, .int .u32 0, .slice none 0 0, .slice none 0 0] : List Value) rX rfl
    have sY := (hbY.block (w.heap.size + 1 + 1) (Array.getElem?_eq_some_iff.1 sX).1 (by omega)).trans sX
    generalize putRow W (w.heap.size + 1) 0 [.int .u8 0, .int .u16 0, .bool false, .int .u8 0, .int .u8 0, .int .u32 0, .int .u32 0, .slice none 0 0, .slice none 0 0] = Y at *
    have hbV : But (fun b => b = w.heap.size + 1 + 1) Y V := by rw [hV8]; exact putRow_but (E := fun b => b = w.heap.size + 1 + 1) (n := w.heap.size + 1 + 1) rfl _ _ _ _ (But.refl _ _)
    have qV := putRow_all ([.int .u8 0, .int .u32 0, .int .u32 0, .int .u16 0, .int .u16 0] : List Value) sY rfl
    rw [← hV8] at qV
    have pV := (hbV.block (w.heap.size + 1) (Array.getElem?_eq_some_iff.1 pY).1 (by omega)).trans pY
    clear hV8 kX fX kS fS
    have PV := block_cell pV
    have QV := block_cell qV
    have hwV : Below w.heap.size w V := (hwX.trans (hbY.below hwX.size (fun k hk e => by omega))).trans (hbV.below (Nat.le_trans hwX.size hbY.size) (fun k hk e => by omega))
    exact bodyPost_ret (v := .tuple #[.agg #[.int .u8 0, .int .u16 0, .bool false, .int .u8 0, .int .u8 0, .int .u32 0, .int .u32 0, .slice none 0 0, .slice none 0 0], .agg #[.int .u8 0, .int .u32 0, .int .u32 0, .int .u16 0, .int .u16 0], .int .i64 f]) (by simp [results, Tryd.results35, go_sem, PV, QV]) rfl ⟨hwV, by rw [HQ.out]; exact rin_mk _ _ _ _ _ _ _ _ _ _ _ _ _ _ _⟩
  · have HPF := hide hf
    clear hf
    have la : Later w1 (w1.alloc (.cells #[.int .u8 (zd[0]?.getD 0), .int .u8 (zd[1]?.getD 0), .int .u32 (wat4 zd 4), .slice a1 (zd.length - 8) c1] 49)) := (Below.refl _ _).alloc (Nat.le_refl _) _
    have l1 := Later.trans hb1 la
    have mW := heap_alloc_new w1 (.cells #[.int .u8 (zd[0]?.getD 0), .int .u8 (zd[1]?.getD 0), .int .u32 (wat4 zd 4), .slice a1 (zd.length - 8) c1] 49)
    have rW := later_keep l1 R0.out
    have sW := later_keep l1 S0.out
    have hwW := hb0.trans (l1.mono hb0.size)
    have DW := hO.ck (CK.of la)
    go_wp2_with fail
    generalize w1.alloc (.cells #[.int .u8 (zd[0]?.getD 0), .int .u8 (zd[1]?.getD 0), .int .u32 (wat4 zd 4), .slice a1 (zd.length - 8) c1] 49) = W at *
    generalize w1.heap.size = gm at *
    refine (risError_any (zd[0]?.getD 0) (zd[1]?.getD 0) (wat4 zd 4) _ W).mono ?_
    have HER : Hid (erb (zd[0]?.getD 0) = (zd[0]?.getD 0 == 3 || (zd[0]?.getD 0 == 11 || zd[0]?.getD 0 == 12))) := rfl
    generalize (zd[0]?.getD 0 == 3 || (zd[0]?.getD 0 == 11 || zd[0]?.getD 0 == 12)) = bq at *
    rintro e w2 ⟨rfl, hb2⟩
    have l2 : Later W w2 := hb2
    have r2 := later_keep l2 rW
    have s2 := later_keep l2 sW
    have hw2 := hwW.trans (hb2.mono hwW.size)
    cases bq with
    | false =>
      have HQ : Hid (que 1 zd = 12) := by show _ = _; unfold que; rw [if_neg (fun h => h HPF.out), if_pos HER.out]
      clear hbad
      have rX := r2
      have sX := s2
      have hwX := hw2
      have kX := block_cell rX
      have fX := block_frozen rX
      have kS := block_cell sX
      have fS := block_frozen sX
      go_wp2_with fail
      generalize hV : (((((((((((((w2.setCell ⟨w.heap.size + 1, 0, none⟩ _).setCell ⟨w.heap.size + 1, 1, none⟩ _).setCell ⟨w.heap.size + 1, 2, none⟩ _).setCell ⟨w.heap.size + 1, 3, none⟩ _).setCell ⟨w.heap.size + 1, 4, none⟩ _).setCell ⟨w.heap.size + 1, 5, none⟩ _).setCell ⟨w.heap.size + 1, 6, none⟩ _).setCell ⟨w.heap.size + 1, 7, none⟩ _).setCell ⟨w.heap.size + 1, 8, none⟩ _).setCell ⟨w.heap.size + 1 + 1, 0, none⟩ _).setCell ⟨w.heap.size + 1 + 1, 1, none⟩ _).setCell ⟨w.heap.size + 1 + 1, 2, none⟩ _).setCell ⟨w.heap.size + 1 + 1, 3, none⟩ _).setCell ⟨w.heap.size + 1 + 1, 4, none⟩ _ = V
      have hV8 : V = putRow (putRow w2 (w.heap.size + 1) 0 [.int .u8 0, .int .u16 0, .bool false, .int .u8 0, .int .u8 0, .int .u32 0, .int .u32 0, .slice none 0 0, .slice none 0 0]) (w.heap.size + 1 + 1) 0 [.int .u8 0, .int .u32 0, .int .u32 0, .int .u16 0, .int .u16 0] := hV.symm
      have hbY : But (fun b => b = w.heap.size + 1) w2 (putRow w2 (w.heap.size + 1) 0 [.int .u8 0, .int .u16 0, .bool false, .int .u8 0, .int .u8 0, .int .u32 0, .int .u32 0, .slice none 0 0, .slice none 0 0]) := putRow_but (E := fun b => b = w.heap.size + 1) (n := w.heap.size + 1) rfl _ _ _ _ (But.refl _ _)
      have pY := putRow_all ([.int .u8 0, .int .u16 0, .bool false, .int .u8 0, .int .u8 0, .int .u32 0, .int .u32 0, .slice none 0 0, .slice none 0 0] : List Value) rX rfl
      have sY := (hbY.block (w.heap.size + 1 + 1) (Array.getElem?_eq_some_iff.1 sX).1 (by omega)).trans sX
      generalize putRow w2 (w.heap.size + 1) 0 [.int .u8 0, .int .u16 0, .bool false, .int .u8 0, .int .u8 0, .int .u32 0, .int .u32 0, .slice none 0 0, .slice none 0 0] = Y at *
      have hbV : But (fun b => b = w.heap.size + 1 + 1) Y V := by rw [hV8]; exact putRow_but (E := fun b => b = w.heap.size + 1 + 1) (n := w.heap.size + 1 + 1) rfl _ _ _ _ (But.refl _ _)
      have qV := putRow_all ([.int .u8 0, .int .u32 0, .int .u32 0, .int .u16 0, .int .u16 0] : List Value) sY rfl
      rw [← hV8] at qV
      have pV := (hbV.block (w.heap.size + 1) (Array.getElem?_eq_some_iff.1 pY).1 (by omega)).trans pY
      clear hV8 kX fX kS fS
      have PV := block_cell pV
      have QV := block_cell qV
      have hwV : Below w.heap.size w V := (hwX.trans (hbY.below hwX.size (fun k hk e => by omega))).trans (hbV.below (Nat.le_trans hwX.size hbY.size) (fun k hk e => by omega))
      exact bodyPost_ret (v := .tuple #[.agg #[.int .u8 0, .int .u16 0, .bool false, .int .u8 0, .int .u8 0, .int .u32 0, .int .u32 0, .slice none 0 0, .slice none 0 0], .agg #[.int .u8 0, .int .u32 0, .int .u32 0, .int .u16 0, .int .u16 0], .int .i64 12]) (by simp [results, Tryd.results35, go_sem, PV, QV]) rfl ⟨hwV, by rw [HQ.out]; exact rin_mk _ _ _ _ _ _ _ _ _ _ _ _ _ _ _⟩
    | true =>
      have hrd : rde true (zd.drop 8) ≠ 0 := by
        rcases hbad with h | h | h
        · exact absurd HPF.out h
        · rw [HER.out] at h; cases h
        · exact h
      clear hbad
      have HQ : Hid (que 1 zd = rde true (zd.drop 8)) := by show _ = _; unfold que; rw [if_neg (fun h => h HPF.out), if_neg (by rw [HER.out]; decide), if_pos hrd]
      have km := block_cell (later_keep l2 mW)
      have D2 := DW.ck (CK.of l2)
      go_wp2_with fail
      clear km
      refine (rquote_any _ (zd.drop 8) w2 (hB.drop 8) (by simp; omega) D2.rd).mono ?_
      rintro e w3 ⟨hb3, ⟨hf3, rfl⟩ | ⟨hf3, _⟩⟩
      · rw [show zc.toArray = #[.int .u8 0, .int .u16 0, .bool false, .int .u8 0, .int .u8 0, .int .u32 0, .int .u32 0, .slice none 0 0, .slice none 0 0] from rfl]
        generalize hpu : rde true (zd.drop 8) = f at *
        have hne : (f != 0) = true := by simp [hrd]
        clear hpu hrd hf3
        have la3 : Later w3 (w3.alloc (.cells #[.int .u8 0, .int .u16 0, .bool false, .int .u8 0, .int .u8 0, .int .u32 0, .int .u32 0, .slice none 0 0, .slice none 0 0] 26)) := (Below.refl _ _).alloc (Nat.le_refl _) _
        have l3 := Later.trans hb3 la3
        have rX := later_keep l3 r2
        have sX := later_keep l3 s2
        have hwX := hw2.trans (l3.mono hw2.size)
        have kX := block_cell rX
        have fX := block_frozen rX
        have kS := block_cell sX
        have fS := block_frozen sX
        go_wp2_with fail
        generalize w3.alloc (.cells #[.int .u8 0, .int .u16 0, .bool false, .int .u8 0, .int .u8 0, .int .u32 0, .int .u32 0, .slice none 0 0, .slice none 0 0] 26) = W3 at *
        generalize hV : (((((((((((((W3.setCell ⟨w.heap.size + 1, 0, none⟩ _).setCell ⟨w.heap.size + 1, 1, none⟩ _).setCell ⟨w.heap.size + 1, 2, none⟩ _).setCell ⟨w.heap.size + 1, 3, none⟩ _).setCell ⟨w.heap.size + 1, 4, none⟩ _).setCell ⟨w.heap.size + 1, 5, none⟩ _).setCell ⟨w.heap.size + 1, 6, none⟩ _).setCell ⟨w.heap.size + 1, 7, none⟩ _).setCell ⟨w.heap.size + 1, 8, none⟩ _).setCell ⟨w.heap.size + 1 + 1, 0, none⟩ _).setCell ⟨w.heap.size + 1 + 1, 1, none⟩ _).setCell ⟨w.heap.size + 1 + 1, 2, none⟩ _).setCell ⟨w.heap.size + 1 + 1, 3, none⟩ _).setCell ⟨w.heap.size + 1 + 1, 4, none⟩ _ = V
        have hV8 : V = putRow (putRow W3 (w.heap.size + 1) 0 [.int .u8 0, .int .u16 0, .bool false, .int .u8 0, .int .u8 0, .int .u32 0, .int .u32 0, .slice none 0 0, .slice none 0 0]) (w.heap.size + 1 + 1) 0 [.int .u8 0, .int .u32 0, .int .u32 0, .int .u16 0, .int .u16 0] := hV.symm
        have hbY : But (fun b => b = w.heap.size + 1) W3 (putRow W3 (w.heap.size + 1) 0 [.int .u8 0, .int .u16 0, .bool false, .int .u8 0, .int .u8 0, .int .u32 0, .int .u32 0, .slice none 0 0, .slice none 0 0]) := putRow_but (E := fun b => b = w.heap.size + 1) (n := w.heap.size + 1) rfl _ _ _ _ (But.refl _ _)
        have pY := putRow_all ([.int .u8 0, .int .u16 0, .bool false, .int .u8 0, .int .u8 0, .int .u32 0, .int .u32 0, .slice none 0 0, .slice none 0 0] : List Value) rX rfl
        have sY := (hbY.block (w.heap.size + 1 + 1) (Array.getElem?_eq_some_iff.1 sX).1 (by omega)).trans sX
        generalize putRow W3 (w.heap.size + 1) 0 [.int .u8 0, .int .u16 0, .bool false, .int .u8 0, .int .u8 0, .int .u32 0, .int .u32 0, .slice none 0 0, .slice none 0 0] = Y at *
        have hbV : But (fun b => b = w.heap.size + 1 + 1) Y V := by rw [hV8]; exact putRow_but (E := fun b => b = w.heap.size + 1 + 1) (n := w.heap.size + 1 + 1) rfl _ _ _ _ (But.refl _ _)
        have qV := putRow_all ([.int .u8 0, .int .u32 0, .int .u32 0, .int .u16 0, .int .u16 0] : List Value) sY rfl
        rw [← hV8] at qV
        have pV := (hbV.block (w.heap.size + 1) (Array.getElem?_eq_some_iff.1 pY).1 (by omega)).trans pY
        clear hV8 kX fX kS fS
        have PV := block_cell pV
        have QV := block_cell qV
        have hwV : Below w.heap.size w V := (hwX.trans (hbY.below hwX.size (fun k hk e => by omega))).trans (hbV.below (Nat.le_trans hwX.size hbY.size) (fun k hk e => by omega))
        exact bodyPost_ret (v := .tuple #[.agg #[.int .u8 0, .int .u16 0, .bool false, .int .u8 0, .int .u8 0, .int .u32 0, .int .u32 0, .slice none 0 0, .slice none 0 0], .agg #[.int .u8 0, .int .u32 0, .int .u32 0, .int .u16 0, .int .u16 0], .int .i64 f]) (by simp [results, Tryd.results35, go_sem, PV, QV]) rfl ⟨hwV, by rw [HQ.out]; exact rin_mk _ _ _ _ _ _ _ _ _ _ _ _ _ _ _⟩
      · exact absurd hf3 hrd

set_option maxHeartbeats 8000000 in
theorem rinner_tcp (pr : Int) (tos id ttl src dst : Int) (keep : Bool) (so sd : Value) (zd : List Int) (w : World) (hB : Mt.By zd) (hI : Rd w.heap.size w sd zd) (hl : zd.length ≤ 1099511627776) (hpi : pie 1 zd = 0) (her : erb (zd[0]?.getD 0) = true) (hrd : rde true (zd.drop 8) = 0) (hpr : (zd.drop 8)[9]?.getD 0 = pr) (h8 : 8 ≤ (qdt (zd.drop 8)).length) (hld : (qdt (zd.drop 8)).length ≤ 140737488355328) (hp : pr = 6) : Calls Tryd.prog 35 #[.agg #[.int .u8 tos, .int .u16 id, .bool keep, .int .u8 ttl, .int .u8 1, .int .u32 src, .int .u32 dst, so, sd]] w fun e w' => Below w.heap.size w w' ∧ rin (.agg #[.int .u8 pr, .int .u32 (wat4 (zd.drop 8) 12), .int .u32 (wat4 (zd.drop 8) 16), .int .u16 (getAt2 (qdt (zd.drop 8)) 0), .int .u16 (getAt2 (qdt (zd.drop 8)) 2)]) 0 e := by
  obtain ⟨ad, cd, rfl, _, _⟩ := hI.slice
  have hb0 : Below w.heap.size w (((w.alloc (.cells #[.int .u8 tos, .int .u16 id, .bool keep, .int .u8 ttl, .int .u8 1, .int .u32 src, .int .u32 dst, so, .slice ad zd.length cd] 26)).alloc (.cells #[.int .u8 0, .int .u16 0, .bool false, .int .u8 0, .int .u8 0, .int .u32 0, .int .u32 0, .slice none 0 0, .slice none 0 0] 26)).alloc (.cells #[.int .u8 0, .int .u32 0, .int .u32 0, .int .u16 0, .int .u16 0] 28)) := ((((Below.refl _ _).alloc (Nat.le_refl _) _).alloc (by simp) _).alloc (by simp <;> omega) _)
  have r0 : (((w.alloc (.cells #[.int .u8 tos, .int .u16 id, .bool keep, .int .u8 ttl, .int .u8 1, .int .u32 src, .int .u32 dst, so, .slice ad zd.length cd] 26)).alloc (.cells #[.int .u8 0, .int .u16 0, .bool false, .int .u8 0, .int .u8 0, .int .u32 0, .int .u32 0, .slice none 0 0, .slice none 0 0] 26)).alloc (.cells #[.int .u8 0, .int .u32 0, .int .u32 0, .int .u16 0, .int .u16 0] 28)).heap[w.heap.size + 1]? = some (.cells #[.int .u8 0, .int .u16 0, .bool false, .int .u8 0, .int .u8 0, .int .u32 0, .int .u32 0, .slice none 0 0, .slice none 0 0] 26) := by
    have := heap_alloc_new (w.alloc (.cells #[.int .u8 tos, .int .u16 id, .bool keep, .int .u8 ttl, .int .u8 1, .int .u32 src, .int .u32 dst, so, .slice ad zd.length cd] 26)) (.cells #[.int .u8 0, .int .u16 0, .bool false, .int .u8 0, .int .u8 0, .int .u32 0, .int .u32 0, .slice none 0 0, .slice none 0 0] 26)
    rw [World.size_alloc] at this
    exact (Below.heap_alloc _ _ _ (by simp)).trans this
  have s0 : (((w.alloc (.cells #[.int .u8 tos, .int .u16 id, .bool keep, .int .u8 ttl, .int .u8 1, .int .u32 src, .int .u32 dst, so, .slice ad zd.length cd] 26)).alloc (.cells #[.int .u8 0, .int .u16 0, .bool false, .int .u8 0, .int .u8 0, .int .u32 0, .int .u32 0, .slice none 0 0, .slice none 0 0] 26)).alloc (.cells #[.int .u8 0, .int .u32 0, .int .u32 0, .int .u16 0, .int .u16 0] 28)).heap[w.heap.size + 1 + 1]? = some (.cells #[.int .u8 0, .int .u32 0, .int .u32 0, .int .u16 0, .int .u16 0] 28) := by
    have := heap_alloc_new ((w.alloc (.cells #[.int .u8 tos, .int .u16 id, .bool keep, .int .u8 ttl, .int .u8 1, .int .u32 src, .int .u32 dst, so, .slice ad zd.length cd] 26)).alloc (.cells #[.int .u8 0, .int .u16 0, .bool false, .int .u8 0, .int .u8 0, .int .u32 0, .int .u32 0, .slice none 0 0, .slice none 0 0] 26)) (.cells #[.int .u8 0, .int .u32 0, .int .u32 0, .int .u16 0, .int .u16 0] 28)
    simpa only [World.size_alloc] using this
  have R0 := hide r0
  have S0 := hide s0
  clear r0 s0
  go_enter Tryd.func35, Tryd.ntmps35
  go_wp2_with fail
  generalize (((w.alloc (.cells #[.int .u8 tos, .int .u16 id, .bool keep, .int .u8 ttl, .int .u8 1, .int .u32 src, .int .u32 dst, so, .slice ad zd.length cd] 26)).alloc (.cells #[.int .u8 0, .int .u16 0, .bool false, .int .u8 0, .int .u8 0, .int .u32 0, .int .u32 0, .slice none 0 0, .slice none 0 0] 26)).alloc (.cells #[.int .u8 0, .int .u32 0, .int .u32 0, .int .u16 0, .int .u16 0] 28)) = w0 at *
  refine (rparseIcmp_any tos id ttl 1 src dst keep _ _ zd w0 hB ((hI.below hb0).mono hb0.size) hl).mono ?_
  rintro e w1 ⟨hb1, ⟨hf, rfl⟩ | ⟨hf, a1, c1, rfl, hO⟩⟩
  · exact absurd hpi hf
  · clear hf
    have la : Later w1 (w1.alloc (.cells #[.int .u8 (zd[0]?.getD 0), .int .u8 (zd[1]?.getD 0), .int .u32 (wat4 zd 4), .slice a1 (zd.length - 8) c1] 49)) := (Below.refl _ _).alloc (Nat.le_refl _) _
    have l1 := Later.trans hb1 la
    have mW := heap_alloc_new w1 (.cells #[.int .u8 (zd[0]?.getD 0), .int .u8 (zd[1]?.getD 0), .int .u32 (wat4 zd 4), .slice a1 (zd.length - 8) c1] 49)
    have rW := later_keep l1 R0.out
    have sW := later_keep l1 S0.out
    have hwW := hb0.trans (l1.mono hb0.size)
    have DW := hO.ck (CK.of la)
    go_wp2_with fail
    generalize w1.alloc (.cells #[.int .u8 (zd[0]?.getD 0), .int .u8 (zd[1]?.getD 0), .int .u32 (wat4 zd 4), .slice a1 (zd.length - 8) c1] 49) = W at *
    generalize w1.heap.size = gm at *
    refine (risError_any (zd[0]?.getD 0) (zd[1]?.getD 0) (wat4 zd 4) _ W).mono ?_
    rw [show (zd[0]?.getD 0 == 3 || (zd[0]?.getD 0 == 11 || zd[0]?.getD 0 == 12)) = true from her]
    rintro e w2 ⟨rfl, hb2⟩
    have l2 : Later W w2 := hb2
    have r2 := later_keep l2 rW
    have s2 := later_keep l2 sW
    have hw2 := hwW.trans (hb2.mono hwW.size)
    have km := block_cell (later_keep l2 mW)
    have D2 := DW.ck (CK.of l2)
    go_wp2_with fail
    clear km
    refine (rquote_any _ (zd.drop 8) w2 (hB.drop 8) (by simp; omega) D2.rd).mono ?_
    rintro e w3 ⟨hb3, ⟨hf3, _⟩ | ⟨_, qo, qs0, rfl, hO3, hD3⟩⟩
    · exact absurd hrd hf3
    obtain ⟨b7, c7, rfl, _, _⟩ := hO3.slice
    obtain ⟨b8, c8, rfl, hc8, hc9⟩ := hD3.slice
    have hBq := By_qdt (hB.drop 8)
    unfold pkt
    have HPR := hide hpr
    rw [hpr]
    clear hpr hpi her hrd
    generalize (zd.drop 8)[1]?.getD 0 = q1 at *
    generalize wat (zd.drop 8) 4 = q2 at *
    generalize decide (16384 ≤ wat (zd.drop 8) 6 % 32768) = q3 at *
    generalize (zd.drop 8)[8]?.getD 0 = q4 at *
    generalize hqs : wat4 (zd.drop 8) 12 = qs at *
    generalize hqd : wat4 (zd.drop 8) 16 = qd at *
    have HQS := hide hqs
    have HQD := hide hqd
    clear hqs hqd
    generalize (((zd.drop 8).take (hl4 (zd.drop 8)).toNat).drop 20).length = l7 at *
    clear hO3
    rw [show ((zd.drop 8).take (ral true (zd.drop 8)).toNat).drop (hl4 (zd.drop 8)).toNat = qdt (zd.drop 8) from rfl] at hD3 hc8 ⊢
    generalize hdq : qdt (zd.drop 8) = dq at *
    have HDQ := hide hdq
    clear hdq
    have la3 : Later w3 (w3.alloc (.cells #[.int .u8 q1, .int .u16 q2, .bool q3, .int .u8 q4, .int .u8 pr, .int .u32 qs, .int .u32 qd, .slice b7 l7 c7, .slice b8 dq.length c8] 26)) := (Below.refl _ _).alloc (Nat.le_refl _) _
    have lb3 : Later (w3.alloc (.cells #[.int .u8 q1, .int .u16 q2, .bool q3, .int .u8 q4, .int .u8 pr, .int .u32 qs, .int .u32 qd, .slice b7 l7 c7, .slice b8 dq.length c8] 26)) ((w3.alloc (.cells #[.int .u8 q1, .int .u16 q2, .bool q3, .int .u8 q4, .int .u8 pr, .int .u32 qs, .int .u32 qd, .slice b7 l7 c7, .slice b8 dq.length c8] 26)).alloc (.cells #[.int .u8 pr, .int .u32 qs, .int .u32 qd, .int .u16 0, .int .u16 0] 28)) := (Below.refl _ _).alloc (Nat.le_refl _) _
    have lab := la3.trans lb3
    have l3 := Later.trans hb3 lab
    have qk := later_keep lb3 (heap_alloc_new w3 (.cells #[.int .u8 q1, .int .u16 q2, .bool q3, .int .u8 q4, .int .u8 pr, .int .u32 qs, .int .u32 qd, .slice b7 l7 c7, .slice b8 dq.length c8] 26))
    have tk := heap_alloc_new (w3.alloc (.cells #[.int .u8 q1, .int .u16 q2, .bool q3, .int .u8 q4, .int .u8 pr, .int .u32 qs, .int .u32 qd, .slice b7 l7 c7, .slice b8 dq.length c8] 26)) (.cells #[.int .u8 pr, .int .u32 qs, .int .u32 qd, .int .u16 0, .int .u16 0] 28)
    rw [World.size_alloc] at tk
    have r3 := later_keep l3 r2
    have s3 := later_keep l3 s2
    have hw3 := hw2.trans (l3.mono hw2.size)
    have D3 := hD3.ck (CK.of lab)
    have hgq : w.heap.size + 1 + 1 < w3.heap.size := Nat.lt_of_lt_of_le (Array.getElem?_eq_some_iff.1 s2).1 hb3.size
    clear D2 hD3
    have HLQ : Hid (8 ≤ dq.length) := h8
    have hq6 : (pr == 6) = true := by simp [hp]
    have hq17 : (pr == 17) = false := by simp [hp]
    have HP := hide hp
    clear hp
    have kq := block_cell qk
    go_upto_region 16 with fail
    generalize (w3.alloc (.cells #[.int .u8 q1, .int .u16 q2, .bool q3, .int .u8 q4, .int .u8 pr, .int .u32 qs, .int .u32 qd, .slice b7 l7 c7, .slice b8 dq.length c8] 26)).alloc (.cells #[.int .u8 pr, .int .u32 qs, .int .u32 qd, .int .u16 0, .int .u16 0] 28) = w4 at *
    generalize w3.heap.size = gq at *
    clear hq6 hq17 kq
    refine anyT_begin (R := But (fun b => b = gq + 1)) 10 rfl (by kernel_rfl) ?_
    have ld : Later w4 w4.drew := Later.drew w4
    have qWd := later_keep ld qk
    have tWd := later_keep ld tk
    have DWd := D3.ck (CK.of ld)
    generalize w4.drew = Wd at *
    have ha : ∀ v1, But (fun b => b = gq + 1) Wd v1 → ∀ i, v1.cell? ⟨gq, i, none⟩ = #[Value.int .u8 q1, .int .u16 q2, .bool q3, .int .u8 q4, .int .u8 pr, .int .u32 qs, .int .u32 qd, .slice b7 l7 c7, .slice b8 dq.length c8][i]? := fun v1 h => block_cell ((h.block gq (Array.getElem?_eq_some_iff.1 qWd).1 (by omega)).trans qWd)
    refine anyT_val (But.pre _) 0 rfl (by kernel_rfl) (by kernel_rfl) (by kernel_rfl) (fun _ _ _ _ h => h) rfl ?_; apply Exists.intro; refine ⟨fun v1 hv1 => ?_, ?_⟩; (· (go_simp; rfl)); simp only [Act.put, List.setIfInBounds_toArray, List.set_cons_zero, List.set_cons_succ]
    refine anyT_val (But.pre _) 1 rfl (by kernel_rfl) (by kernel_rfl) (by kernel_rfl) (fun _ _ _ _ h => h) rfl ?_; apply Exists.intro; refine ⟨fun v1 hv1 => ?_, ?_⟩; (· (go_simp; rfl)); simp only [Act.put, List.setIfInBounds_toArray, List.set_cons_zero, List.set_cons_succ]
    refine anyT_val (But.pre _) 3 rfl (by kernel_rfl) (by kernel_rfl) (by kernel_rfl) (fun _ _ _ _ h => h) rfl ?_; apply Exists.intro; refine ⟨fun v1 hv1 => ?_, ?_⟩; (· (go_simp; rfl)); simp only [Act.put, List.setIfInBounds_toArray, List.set_cons_zero, List.set_cons_succ]
    refine anyT_val (But.pre _) 4 rfl (by kernel_rfl) (by kernel_rfl) (by kernel_rfl) (fun _ _ _ _ h => h) rfl ?_; apply Exists.intro; refine ⟨fun v1 hv1 => ?_, ?_⟩; (· (go_simp; rfl)); simp only [Act.put, List.setIfInBounds_toArray, List.set_cons_zero, List.set_cons_succ]
    clear ha
    refine anyT_one 2 rfl (by kernel_rfl) rfl ?_
    refine wp_enter 53 #[.slice b8 dq.length c8, .int .i64 0] (by go_simp) ?_
    refine (rget16_at _ dq hBq 0 (by omega) hld Wd DWd.rd).mono ?_
    rintro e W5 ⟨rfl, nW5, eW5⟩
    have lW5 : Later Wd W5 := by rw [eW5]; exact below_draw (Later.refl Wd) nW5
    clear eW5
    have tW5 := later_keep lW5 tWd
    have DW5 := DWd.ck (CK.of lW5)
    refine ⟨But.of lW5, ?_⟩
    simp only [Act.put, List.setIfInBounds_toArray, List.set_cons_zero, List.set_cons_succ]
    refine anyT_val (But.pre _) 6 rfl (by kernel_rfl) (by kernel_rfl) (by kernel_rfl) (fun _ _ _ _ h => h) rfl ?_; apply Exists.intro; refine ⟨fun v1 hv1 => ?_, ?_⟩; (· (go_simp; rfl)); simp only [Act.put, List.setIfInBounds_toArray, List.set_cons_zero, List.set_cons_succ]
    refine anyT_one 5 rfl (by kernel_rfl) rfl ?_
    refine wp_enter 53 #[.slice b8 dq.length c8, .int .i64 2] (by go_simp) ?_
    refine (rget16_at _ dq hBq 2 (by omega) hld W5 DW5.rd).mono ?_
    rintro e W6 ⟨rfl, nW6, eW6⟩
    have lW6 : Later W5 W6 := by rw [eW6]; exact below_draw (Later.refl W5) nW6
    clear eW6
    have tW6 := later_keep lW6 tW5
    have DW6 := DW5.ck (CK.of lW6)
    refine ⟨But.of lW6, ?_⟩
    simp only [Act.put, List.setIfInBounds_toArray, List.set_cons_zero, List.set_cons_succ]
    generalize hg0 : getAt2 dq 0 = g0 at *
    generalize hg2 : getAt2 dq 2 = g2 at *
    have HG0 := hide hg0
    have HG2 := hide hg2
    clear hg0 hg2
    have kx := block_cell tW6
    have fx := block_frozen tW6
    refine anyT_one 7 rfl (by kernel_rfl) rfl ?_
    unfold Oper.wp
    go_simp
    generalize hV : W6.setCell ⟨gq + 1, 3, none⟩ _ = V7
    have tV := heap_set1 tW6 3 (.int .u16 g0)
    rw [hV] at tV
    have hbV7 : But (fun b => b = gq + 1) W6 V7 := by rw [← hV]; exact (But.refl (fun b => b = gq + 1) _).setCell (p := ⟨gq + 1, 3, none⟩) rfl _
    refine ⟨hbV7, ?_⟩
    clear hV kx fx
    simp only [List.setIfInBounds_toArray, List.set_cons_zero, List.set_cons_succ] at tV
    refine anyT_val (But.pre _) 8 rfl (by kernel_rfl) (by kernel_rfl) (by kernel_rfl) (fun _ _ _ _ h => h) rfl ?_; apply Exists.intro; refine ⟨fun v1 hv1 => ?_, ?_⟩; (· (go_simp; rfl)); simp only [Act.put, List.setIfInBounds_toArray, List.set_cons_zero, List.set_cons_succ]
    have kx := block_cell tV
    have fx := block_frozen tV
    refine anyT_one 9 rfl (by kernel_rfl) rfl ?_
    unfold Oper.wp
    go_simp
    generalize hV : V7.setCell ⟨gq + 1, 4, none⟩ _ = V8
    have tN := heap_set1 tV 4 (.int .u16 g2)
    rw [hV] at tN
    have hbV8 : But (fun b => b = gq + 1) V7 V8 := by rw [← hV]; exact (But.refl (fun b => b = gq + 1) _).setCell (p := ⟨gq + 1, 4, none⟩) rfl _
    refine ⟨hbV8, ?_⟩
    clear hV kx fx
    simp only [List.setIfInBounds_toArray, List.set_cons_zero, List.set_cons_succ] at tN
    refine anyT_done (by kernel_rfl) ?_
    have hbN : But (fun b => b = gq + 1) w4 V8 := (But.of (ld.trans (lW5.trans lW6))).trans (hbV7.trans hbV8)
    have qN := (hbN.block gq (Array.getElem?_eq_some_iff.1 qk).1 (by omega)).trans qk
    have rN := (hbN.block (w.heap.size + 1) (Array.getElem?_eq_some_iff.1 r3).1 (by omega)).trans r3
    have sN := (hbN.block (w.heap.size + 1 + 1) (Array.getElem?_eq_some_iff.1 s3).1 (by omega)).trans s3
    have hwN : Below w.heap.size w V8 := hw3.trans (hbN.below hw3.size (fun k hk e => by omega))
    clear ld
    go_upto_region 26 with fail
    refine anyT_begin (R := But (fun b => b = w.heap.size + 1 ∨ b = w.heap.size + 1 + 1)) 5 rfl (by kernel_rfl) ?_
    have ld : Later V8 V8.drew := Later.drew V8
    have qd0 := later_keep ld qN
    have td0 := later_keep ld tN
    have rd0 := later_keep ld rN
    have sd0 := later_keep ld sN
    have hwd := hwN.trans (ld.mono hwN.size)
    generalize V8.drew = Wd at *
    have ha : ∀ v1, But (fun b => b = w.heap.size + 1 ∨ b = w.heap.size + 1 + 1) Wd v1 → ∀ i, v1.cell? ⟨gq, i, none⟩ = #[Value.int .u8 q1, .int .u16 q2, .bool q3, .int .u8 q4, .int .u8 pr, .int .u32 qs, .int .u32 qd, .slice b7 l7 c7, .slice b8 dq.length c8][i]? := fun v1 h => block_cell ((h.block gq (Array.getElem?_eq_some_iff.1 qd0).1 (by omega)).trans qd0)
    have hb : ∀ v1, But (fun b => b = w.heap.size + 1 ∨ b = w.heap.size + 1 + 1) Wd v1 → ∀ i, v1.cell? ⟨gq + 1, i, none⟩ = #[Value.int .u8 pr, .int .u32 qs, .int .u32 qd, .int .u16 g0, .int .u16 g2][i]? := fun v1 h => block_cell ((h.block (gq + 1) (Array.getElem?_eq_some_iff.1 td0).1 (by omega)).trans td0)
    refine anyT_val (But.pre _) 0 rfl (by kernel_rfl) (by kernel_rfl) (by kernel_rfl) (fun _ _ _ _ h => h) rfl ?_; apply Exists.intro; refine ⟨fun v1 hv1 => ?_, ?_⟩; (· (go_simp; rfl)); simp only [Act.put, List.setIfInBounds_toArray, List.set_cons_zero, List.set_cons_succ]
    refine anyT_val (But.pre _) 1 rfl (by kernel_rfl) (by kernel_rfl) (by kernel_rfl) (fun _ _ _ _ h => h) rfl ?_; apply Exists.intro; refine ⟨fun v1 hv1 => ?_, ?_⟩; (· (go_simp; rfl)); simp only [Act.put, List.setIfInBounds_toArray, List.set_cons_zero, List.set_cons_succ]
    clear ha hb
    have kx := block_cell rd0
    have fx := block_frozen rd0
    refine anyT_one 2 rfl (by kernel_rfl) rfl ?_
    unfold Oper.wp
    go_simp
    generalize hV1 : ((((((((Wd.setCell ⟨w.heap.size + 1, 0, none⟩ _).setCell ⟨w.heap.size + 1, 1, none⟩ _).setCell ⟨w.heap.size + 1, 2, none⟩ _).setCell ⟨w.heap.size + 1, 3, none⟩ _).setCell ⟨w.heap.size + 1, 4, none⟩ _).setCell ⟨w.heap.size + 1, 5, none⟩ _).setCell ⟨w.heap.size + 1, 6, none⟩ _).setCell ⟨w.heap.size + 1, 7, none⟩ _).setCell ⟨w.heap.size + 1, 8, none⟩ _ = Y0
    have hV9 : Y0 = putRow Wd (w.heap.size + 1) 0 [.int .u8 q1, .int .u16 q2, .bool q3, .int .u8 q4, .int .u8 pr, .int .u32 qs, .int .u32 qd, .slice b7 l7 c7, .slice b8 dq.length c8] := hV1.symm
    have hbY0 : But (fun b => b = w.heap.size + 1) Wd Y0 := by rw [hV9]; exact putRow_but (E := fun b => b = w.heap.size + 1) (n := w.heap.size + 1) rfl _ _ _ _ (But.refl _ _)
    have hbY1 : But (fun b => b = w.heap.size + 1 ∨ b = w.heap.size + 1 + 1) Wd Y0 := by rw [hV9]; exact putRow_but (E := fun b => b = w.heap.size + 1 ∨ b = w.heap.size + 1 + 1) (n := w.heap.size + 1) (.inl rfl) _ _ _ _ (But.refl _ _)
    have pY0 := putRow_all ([.int .u8 q1, .int .u16 q2, .bool q3, .int .u8 q4, .int .u8 pr, .int .u32 qs, .int .u32 qd, .slice b7 l7 c7, .slice b8 dq.length c8] : List Value) rd0 rfl
    rw [← hV9] at pY0
    have sY0 := (hbY0.block (w.heap.size + 1 + 1) (Array.getElem?_eq_some_iff.1 sd0).1 (by omega)).trans sd0
    refine ⟨hbY1, ?_⟩
    clear hV1 hV9 kx fx
    have kx := block_cell sY0
    have fx := block_frozen sY0
    refine anyT_one 3 rfl (by kernel_rfl) rfl ?_
    unfold Oper.wp
    go_simp
    generalize hV2 : ((((Y0.setCell ⟨w.heap.size + 1 + 1, 0, none⟩ _).setCell ⟨w.heap.size + 1 + 1, 1, none⟩ _).setCell ⟨w.heap.size + 1 + 1, 2, none⟩ _).setCell ⟨w.heap.size + 1 + 1, 3, none⟩ _).setCell ⟨w.heap.size + 1 + 1, 4, none⟩ _ = V
    have hV8 : V = putRow Y0 (w.heap.size + 1 + 1) 0 [.int .u8 pr, .int .u32 qs, .int .u32 qd, .int .u16 g0, .int .u16 g2] := hV2.symm
    have hbV : But (fun b => b = w.heap.size + 1 + 1) Y0 V := by rw [hV8]; exact putRow_but (E := fun b => b = w.heap.size + 1 + 1) (n := w.heap.size + 1 + 1) rfl _ _ _ _ (But.refl _ _)
    have hbV1 : But (fun b => b = w.heap.size + 1 ∨ b = w.heap.size + 1 + 1) Y0 V := by rw [hV8]; exact putRow_but (E := fun b => b = w.heap.size + 1 ∨ b = w.heap.size + 1 + 1) (n := w.heap.size + 1 + 1) (.inr rfl) _ _ _ _ (But.refl _ _)
    have qV := putRow_all ([.int .u8 pr, .int .u32 qs, .int .u32 qd, .int .u16 g0, .int .u16 g2] : List Value) sY0 rfl
    rw [← hV8] at qV
    have pV := (hbV.block (w.heap.size + 1) (Array.getElem?_eq_some_iff.1 pY0).1 (by omega)).trans pY0
    refine ⟨hbV1, ?_⟩
    clear hV2 hV8 kx fx
    refine anyT_one 4 rfl (by kernel_rfl) rfl ?_
    unfold Oper.wp
    go_simp
    refine ⟨But.refl _ _, ?_⟩
    refine anyT_done (by kernel_rfl) ?_
    have PV := block_cell pV
    have QV := block_cell qV
    have hwV : Below w.heap.size w V := (hwd.trans (hbY0.below hwd.size (fun k hk e => by omega))).trans (hbV.below (Nat.le_trans hwd.size hbY0.size) (fun k hk e => by omega))
    go_wp2_with fail
    exact bodyPost_ret (v := .tuple #[.agg #[.int .u8 q1, .int .u16 q2, .bool q3, .int .u8 q4, .int .u8 pr, .int .u32 qs, .int .u32 qd, .slice b7 l7 c7, .slice b8 dq.length c8], .agg #[.int .u8 pr, .int .u32 qs, .int .u32 qd, .int .u16 g0, .int .u16 g2], .int .i64 0]) (by simp [results, Tryd.results35, go_sem, PV, QV]) rfl ⟨hwV, by rw [HDQ.out, HG0.out, HG2.out, HQS.out, HQD.out]; exact rin_mk _ _ _ _ _ _ _ _ _ _ _ _ _ _ _⟩

set_option maxHeartbeats 8000000 in
theorem rinner_udp (pr : Int) (tos id ttl src dst : Int) (keep : Bool) (so sd : Value) (zd : List Int) (w : World) (hB : Mt.By zd) (hI : Rd w.heap.size w sd zd) (hl : zd.length ≤ 1099511627776) (hpi : pie 1 zd = 0) (her : erb (zd[0]?.getD 0) = true) (hrd : rde true (zd.drop 8) = 0) (hpr : (zd.drop 8)[9]?.getD 0 = pr) (h8 : 8 ≤ (qdt (zd.drop 8)).length) (hld : (qdt (zd.drop 8)).length ≤ 140737488355328) (hp : pr = 17) : Calls Tryd.prog 35 #[.agg #[.int .u8 tos, .int .u16 id, .bool keep, .int .u8 ttl, .int .u8 1, .int .u32 src, .int .u32 dst, so, sd]] w fun e w' => Below w.heap.size w w' ∧ rin (.agg #[.int .u8 pr, .int .u32 (wat4 (zd.drop 8) 12), .int .u32 (wat4 (zd.drop 8) 16), .int .u16 (getAt2 (qdt (zd.drop 8)) 0), .int .u16 (getAt2 (qdt (zd.drop 8)) 2)]) 0 e := by
  obtain ⟨ad, cd, rfl, _, _⟩ := hI.slice
  have hb0 : Below w.heap.size w (((w.alloc (.cells #[.int .u8 tos, .int .u16 id, .bool keep, .int .u8 ttl, .int .u8 1, .int .u32 src, .int .u32 dst, so, .slice ad zd.length cd] 26)).alloc (.cells #[.int .u8 0, .int .u16 0, .bool false, .int .u8 0, .int .u8 0, .int .u32 0, .int .u32 0, .slice none 0 0, .slice none 0 0] 26)).alloc (.cells #[.int .u8 0, .int .u32 0, .int .u32 0, .int .u16 0, .int .u16 0] 28)) := ((((Below.refl _ _).alloc (Nat.le_refl _) _).alloc (by simp) _).alloc (by simp <;> omega) _)
  have r0 : (((w.alloc (.cells #[.int .u8 tos, .int .u16 id, .bool keep, .int .u8 ttl, .int .u8 1, .int .u32 src, .int .u32 dst, so, .slice ad zd.length cd] 26)).alloc (.cells #[.int .u8 0, .int .u16 0, .bool false, .int .u8 0, .int .u8 0, .int .u32 0, .int .u32 0, .slice none 0 0, .slice none 0 0] 26)).alloc (.cells #[.int .u8 0, .int .u32 0, .int .u32 0, .int .u16 0, .int .u16 0] 28)).heap[w.heap.size + 1]? = some (.cells #[.int .u8 0, .int .u16 0, .bool false, .int .u8 0, .int .u8 0, .int .u32 0, .int .u32 0, .slice none 0 0, .slice none 0 0] 26) := by
    have := heap_alloc_new (w.alloc (.cells #[.int .u8 tos, .int .u16 id, .bool keep, .int .u8 ttl, .int .u8 1, .int .u32 src, .int .u32 dst, so, .slice ad zd.length cd] 26)) (.cells #[.int .u8 0, .int .u16 0, .bool false, .int .u8 0, .int .u8 0, .int .u32 0, .int .u32 0, .slice none 0 0, .slice none 0 0] 26)
    rw [World.size_alloc] at this
    exact (Below.heap_alloc _ _ _ (by simp)).trans this
  have s0 : (((w.alloc (.cells #[.int .u8 tos, .int .u16 id, .bool keep, .int .u8 ttl, .int .u8 1, .int .u32 src, .int .u32 dst, so, .slice ad zd.length cd] 26)).alloc (.cells #[.int .u8 0, .int .u16 0, .bool false, .int .u8 0, .int .u8 0, .int .u32 0, .int .u32 0, .slice none 0 0, .slice none 0 0] 26)).alloc (.cells #[.int .u8 0, .int .u32 0, .int .u32 0, .int .u16 0, .int .u16 0] 28)).heap[w.heap.size + 1 + 1]? = some (.cells #[.int .u8 0, .int .u32 0, .int .u32 0, .int .u16 0, .int .u16 0] 28) := by
    have := heap_alloc_new ((w.alloc (.cells #[.int .u8 tos, .int .u16 id, .bool keep, .int .u8 ttl, .int .u8 1, .int .u32 src, .int .u32 dst, so, .slice ad zd.length cd] 26)).alloc (.cells #[.int .u8 0, .int .u16 0, .bool false, .int .u8 0, .int .u8 0, .int .u32 0, .int .u32 0, .slice none 0 0, .slice none 0 0] 26)) (.cells #[.int .u8 0, .int .u32 0, .int .u32 0, .int .u16 0, .int .u16 0] 28)
    simpa only [World.size_alloc] using this
  have R0 := hide r0
  have S0 := hide s0
  clear r0 s0
  go_enter Tryd.func35, Tryd.ntmps35
  go_wp2_with fail
  generalize (((w.alloc (.cells #[.int .u8 tos, .int .u16 id, .bool keep, .int .u8 ttl, .int .u8 1, .int .u32 src, .int .u32 dst, so, .slice ad zd.length cd] 26)).alloc (.cells #[.int .u8 0, .int .u16 0, .bool false, .int .u8 0, .int .u8 0, .int .u32 0, .int .u32 0, .slice none 0 0, .slice none 0 0] 26)).alloc (.cells #[.int .u8 0, .int .u32 0, .int .u32 0, .int .u16 0, .int .u16 0] 28)) = w0 at *
  refine (rparseIcmp_any tos id ttl 1 src dst keep _ _ zd w0 hB ((hI.below hb0).mono hb0.size) hl).mono ?_
  rintro e w1 ⟨hb1, ⟨hf, rfl⟩ | ⟨hf, a1, c1, rfl, hO⟩⟩
  · exact absurd hpi hf
  · clear hf
    have la : Later w1 (w1.alloc (.cells #[.int .u8 (zd[0]?.getD 0), .int .u8 (zd[1]?.getD 0), .int .u32 (wat4 zd 4), .slice a1 (zd.length - 8) c1] 49)) := (Below.refl _ _).alloc (Nat.le_refl _) _
    have l1 := Later.trans hb1 la
    have mW := heap_alloc_new w1 (.cells #[.int .u8 (zd[0]?.getD 0), .int .u8 (zd[1]?.getD 0), .int .u32 (wat4 zd 4), .slice a1 (zd.length - 8) c1] 49)
    have rW := later_keep l1 R0.out
    have sW := later_keep l1 S0.out
    have hwW := hb0.trans (l1.mono hb0.size)
    have DW := hO.ck (CK.of la)
    go_wp2_with fail
    generalize w1.alloc (.cells #[.int .u8 (zd[0]?.getD 0), .int .u8 (zd[1]?.getD 0), .int .u32 (wat4 zd 4), .slice a1 (zd.length - 8) c1] 49) = W at *
    generalize w1.heap.size = gm at *
    refine (risError_any (zd[0]?.getD 0) (zd[1]?.getD 0) (wat4 zd 4) _ W).mono ?_
    rw [show (zd[0]?.getD 0 == 3 || (zd[0]?.getD 0 == 11 || zd[0]?.getD 0 == 12)) = true from her]
    rintro e w2 ⟨rfl, hb2⟩
    have l2 : Later W w2 := hb2
    have r2 := later_keep l2 rW
    have s2 := later_keep l2 sW
    have hw2 := hwW.trans (hb2.mono hwW.size)
    have km := block_cell (later_keep l2 mW)
    have D2 := DW.ck (CK.of l2)
    go_wp2_with fail
    clear km
    refine (rquote_any _ (zd.drop 8) w2 (hB.drop 8) (by simp; omega) D2.rd).mono ?_
    rintro e w3 ⟨hb3, ⟨hf3, _⟩ | ⟨_, qo, qs0, rfl, hO3, hD3⟩⟩
    · exact absurd hrd hf3
    obtain ⟨b7, c7, rfl, _, _⟩ := hO3.slice
    obtain ⟨b8, c8, rfl, hc8, hc9⟩ := hD3.slice
    have hBq := By_qdt (hB.drop 8)
    unfold pkt
    have HPR := hide hpr
    rw [hpr]
    clear hpr hpi her hrd
    generalize (zd.drop 8)[1]?.getD 0 = q1 at *
    generalize wat (zd.drop 8) 4 = q2 at *
    generalize decide (16384 ≤ wat (zd.drop 8) 6 % 32768) = q3 at *
    generalize (zd.drop 8)[8]?.getD 0 = q4 at *
    generalize hqs : wat4 (zd.drop 8) 12 = qs at *
    generalize hqd : wat4 (zd.drop 8) 16 = qd at *
    have HQS := hide hqs
    have HQD := hide hqd
    clear hqs hqd
    generalize (((zd.drop 8).take (hl4 (zd.drop 8)).toNat).drop 20).length = l7 at *
    clear hO3
    rw [show ((zd.drop 8).take (ral true (zd.drop 8)).toNat).drop (hl4 (zd.drop 8)).toNat = qdt (zd.drop 8) from rfl] at hD3 hc8 ⊢
    generalize hdq : qdt (zd.drop 8) = dq at *
    have HDQ := hide hdq
    clear hdq
    have la3 : Later w3 (w3.alloc (.cells #[.int .u8 q1, .int .u16 q2, .bool q3, .int .u8 q4, .int .u8 pr, .int .u32 qs, .int .u32 qd, .slice b7 l7 c7, .slice b8 dq.length c8] 26)) := (Below.refl _ _).alloc (Nat.le_refl _) _
    have lb3 : Later (w3.alloc (.cells #[.int .u8 q1, .int .u16 q2, .bool q3, .int .u8 q4, .int .u8 pr, .int .u32 qs, .int .u32 qd, .slice b7 l7 c7, .slice b8 dq.length c8] 26)) ((w3.alloc (.cells #[.int .u8 q1, .int .u16 q2, .bool q3, .int .u8 q4, .int .u8 pr, .int .u32 qs, .int .u32 qd, .slice b7 l7 c7, .slice b8 dq.length c8] 26)).alloc (.cells #[.int .u8 pr, .int .u32 qs, .int .u32 qd, .int .u16 0, .int .u16 0] 28)) := (Below.refl _ _).alloc (Nat.le_refl _) _
    have lab := la3.trans lb3
    have l3 := Later.trans hb3 lab
    have qk := later_keep lb3 (heap_alloc_new w3 (.cells #[.int .u8 q1, .int .u16 q2, .bool q3, .int .u8 q4, .int .u8 pr, .int .u32 qs, .int .u32 qd, .slice b7 l7 c7, .slice b8 dq.length c8] 26))
    have tk := heap_alloc_new (w3.alloc (.cells #[.int .u8 q1, .int .u16 q2, .bool q3, .int .u8 q4, .int .u8 pr, .int .u32 qs, .int .u32 qd, .slice b7 l7 c7, .slice b8 dq.length c8] 26)) (.cells #[.int .u8 pr, .int .u32 qs, .int .u32 qd, .int .u16 0, .int .u16 0] 28)
    rw [World.size_alloc] at tk
    have r3 := later_keep l3 r2
    have s3 := later_keep l3 s2
    have hw3 := hw2.trans (l3.mono hw2.size)
    have D3 := hD3.ck (CK.of lab)
    have hgq : w.heap.size + 1 + 1 < w3.heap.size := Nat.lt_of_lt_of_le (Array.getElem?_eq_some_iff.1 s2).1 hb3.size
    clear D2 hD3
    have HLQ : Hid (8 ≤ dq.length) := h8
    have hq6 : (pr == 6) = false := by simp [hp]
    have hq17 : (pr == 17) = true := by simp [hp]
    have HP := hide hp
    clear hp
    have kq := block_cell qk
    go_upto_region 16 with fail
    generalize (w3.alloc (.cells #[.int .u8 q1, .int .u16 q2, .bool q3, .int .u8 q4, .int .u8 pr, .int .u32 qs, .int .u32 qd, .slice b7 l7 c7, .slice b8 dq.length c8] 26)).alloc (.cells #[.int .u8 pr, .int .u32 qs, .int .u32 qd, .int .u16 0, .int .u16 0] 28) = w4 at *
    generalize w3.heap.size = gq at *
    clear hq6 hq17 kq
    refine anyT_begin (R := But (fun b => b = gq + 1)) 10 rfl (by kernel_rfl) ?_
    have ld : Later w4 w4.drew := Later.drew w4
    have qWd := later_keep ld qk
    have tWd := later_keep ld tk
    have DWd := D3.ck (CK.of ld)
    generalize w4.drew = Wd at *
    have ha : ∀ v1, But (fun b => b = gq + 1) Wd v1 → ∀ i, v1.cell? ⟨gq, i, none⟩ = #[Value.int .u8 q1, .int .u16 q2, .bool q3, .int .u8 q4, .int .u8 pr, .int .u32 qs, .int .u32 qd, .slice b7 l7 c7, .slice b8 dq.length c8][i]? := fun v1 h => block_cell ((h.block gq (Array.getElem?_eq_some_iff.1 qWd).1 (by omega)).trans qWd)
    refine anyT_val (But.pre _) 0 rfl (by kernel_rfl) (by kernel_rfl) (by kernel_rfl) (fun _ _ _ _ h => h) rfl ?_; apply Exists.intro; refine ⟨fun v1 hv1 => ?_, ?_⟩; (· (go_simp; rfl)); simp only [Act.put, List.setIfInBounds_toArray, List.set_cons_zero, List.set_cons_succ]
    refine anyT_val (But.pre _) 1 rfl (by kernel_rfl) (by kernel_rfl) (by kernel_rfl) (fun _ _ _ _ h => h) rfl ?_; apply Exists.intro; refine ⟨fun v1 hv1 => ?_, ?_⟩; (· (go_simp; rfl)); simp only [Act.put, List.setIfInBounds_toArray, List.set_cons_zero, List.set_cons_succ]
    refine anyT_val (But.pre _) 3 rfl (by kernel_rfl) (by kernel_rfl) (by kernel_rfl) (fun _ _ _ _ h => h) rfl ?_; apply Exists.intro; refine ⟨fun v1 hv1 => ?_, ?_⟩; (· (go_simp; rfl)); simp only [Act.put, List.setIfInBounds_toArray, List.set_cons_zero, List.set_cons_succ]
    refine anyT_val (But.pre _) 4 rfl (by kernel_rfl) (by kernel_rfl) (by kernel_rfl) (fun _ _ _ _ h => h) rfl ?_; apply Exists.intro; refine ⟨fun v1 hv1 => ?_, ?_⟩; (· (go_simp; rfl)); simp only [Act.put, List.setIfInBounds_toArray, List.set_cons_zero, List.set_cons_succ]
    clear ha
    refine anyT_one 2 rfl (by kernel_rfl) rfl ?_
    refine wp_enter 53 #[.slice b8 dq.length c8, .int .i64 0] (by go_simp) ?_
    refine (rget16_at _ dq hBq 0 (by omega) hld Wd DWd.rd).mono ?_
    rintro e W5 ⟨rfl, nW5, eW5⟩
    have lW5 : Later Wd W5 := by rw [eW5]; exact below_draw (Later.refl Wd) nW5
    clear eW5
    have tW5 := later_keep lW5 tWd
    have DW5 := DWd.ck (CK.of lW5)
    refine ⟨But.of lW5, ?_⟩
    simp only [Act.put, List.setIfInBounds_toArray, List.set_cons_zero, List.set_cons_succ]
    refine anyT_val (But.pre _) 6 rfl (by kernel_rfl) (by kernel_rfl) (by kernel_rfl) (fun _ _ _ _ h => h) rfl ?_; apply Exists.intro; refine ⟨fun v1 hv1 => ?_, ?_⟩; (· (go_simp; rfl)); simp only [Act.put, List.setIfInBounds_toArray, List.set_cons_zero, List.set_cons_succ]
    refine anyT_one 5 rfl (by kernel_rfl) rfl ?_
    refine wp_enter 53 #[.slice b8 dq.length c8, .int .i64 2] (by go_simp) ?_
    refine (rget16_at _ dq hBq 2 (by omega) hld W5 DW5.rd).mono ?_
    rintro e W6 ⟨rfl, nW6, eW6⟩
    have lW6 : Later W5 W6 := by rw [eW6]; exact below_draw (Later.refl W5) nW6
    clear eW6
    have tW6 := later_keep lW6 tW5
    have DW6 := DW5.ck (CK.of lW6)
    refine ⟨But.of lW6, ?_⟩
    simp only [Act.put, List.setIfInBounds_toArray, List.set_cons_zero, List.set_cons_succ]
    generalize hg0 : getAt2 dq 0 = g0 at *
    generalize hg2 : getAt2 dq 2 = g2 at *
    have HG0 := hide hg0
    have HG2 := hide hg2
    clear hg0 hg2
    have kx := block_cell tW6
    have fx := block_frozen tW6
    refine anyT_one 7 rfl (by kernel_rfl) rfl ?_
    unfold Oper.wp
    go_simp
    generalize hV : W6.setCell ⟨gq + 1, 3, none⟩ _ = V7
    have tV := heap_set1 tW6 3 (.int .u16 g0)
    rw [hV] at tV
    have hbV7 : But (fun b => b = gq + 1) W6 V7 := by rw [← hV]; exact (But.refl (fun b => b = gq + 1) _).setCell (p := ⟨gq + 1, 3, none⟩) rfl _
    refine ⟨hbV7, ?_⟩
    clear hV kx fx
    simp only [List.setIfInBounds_toArray, List.set_cons_zero, List.set_cons_succ] at tV
    refine anyT_val (But.pre _) 8 rfl (by kernel_rfl) (by kernel_rfl) (by kernel_rfl) (fun _ _ _ _ h => h) rfl ?_; apply Exists.intro; refine ⟨fun v1 hv1 => ?_, ?_⟩; (· (go_simp; rfl)); simp only [Act.put, List.setIfInBounds_toArray, List.set_cons_zero, List.set_cons_succ]
    have kx := block_cell tV
    have fx := block_frozen tV
    refine anyT_one 9 rfl (by kernel_rfl) rfl ?_
    unfold Oper.wp
    go_simp
    generalize hV : V7.setCell ⟨gq + 1, 4, none⟩ _ = V8
    have tN := heap_set1 tV 4 (.int .u16 g2)
    rw [hV] at tN
    have hbV8 : But (fun b => b = gq + 1) V7 V8 := by rw [← hV]; exact (But.refl (fun b => b = gq + 1) _).setCell (p := ⟨gq + 1, 4, none⟩) rfl _
    refine ⟨hbV8, ?_⟩
    clear hV kx fx
    simp only [List.setIfInBounds_toArray, List.set_cons_zero, List.set_cons_succ] at tN
    refine anyT_done (by kernel_rfl) ?_
    have hbN : But (fun b => b = gq + 1) w4 V8 := (But.of (ld.trans (lW5.trans lW6))).trans (hbV7.trans hbV8)
    have qN := (hbN.block gq (Array.getElem?_eq_some_iff.1 qk).1 (by omega)).trans qk
    have rN := (hbN.block (w.heap.size + 1) (Array.getElem?_eq_some_iff.1 r3).1 (by omega)).trans r3
    have sN := (hbN.block (w.heap.size + 1 + 1) (Array.getElem?_eq_some_iff.1 s3).1 (by omega)).trans s3
    have hwN : Below w.heap.size w V8 := hw3.trans (hbN.below hw3.size (fun k hk e => by omega))
    clear ld
    go_upto_region 26 with fail
    refine anyT_begin (R := But (fun b => b = w.heap.size + 1 ∨ b = w.heap.size + 1 + 1)) 5 rfl (by kernel_rfl) ?_
    have ld : Later V8 V8.drew := Later.drew V8
    have qd0 := later_keep ld qN
    have td0 := later_keep ld tN
    have rd0 := later_keep ld rN
    have sd0 := later_keep ld sN
    have hwd := hwN.trans (ld.mono hwN.size)
    generalize V8.drew = Wd at *
    have ha : ∀ v1, But (fun b => b = w.heap.size + 1 ∨ b = w.heap.size + 1 + 1) Wd v1 → ∀ i, v1.cell? ⟨gq, i, none⟩ = #[Value.int .u8 q1, .int .u16 q2, .bool q3, .int .u8 q4, .int .u8 pr, .int .u32 qs, .int .u32 qd, .slice b7 l7 c7, .slice b8 dq.length c8][i]? := fun v1 h => block_cell ((h.block gq (Array.getElem?_eq_some_iff.1 qd0).1 (by omega)).trans qd0)
    have hb : ∀ v1, But (fun b => b = w.heap.size + 1 ∨ b = w.heap.size + 1 + 1) Wd v1 → ∀ i, v1.cell? ⟨gq + 1, i, none⟩ = #[Value.int .u8 pr, .int .u32 qs, .int .u32 qd, .int .u16 g0, .int .u16 g2][i]? := fun v1 h => block_cell ((h.block (gq + 1) (Array.getElem?_eq_some_iff.1 td0).1 (by omega)).trans td0)
    refine anyT_val (But.pre _) 0 rfl (by kernel_rfl) (by kernel_rfl) (by kernel_rfl) (fun _ _ _ _ h => h) rfl ?_; apply Exists.intro; refine ⟨fun v1 hv1 => ?_, ?_⟩; (· (go_simp; rfl)); simp only [Act.put, List.setIfInBounds_toArray, List.set_cons_zero, List.set_cons_succ]
    refine anyT_val (But.pre _) 1 rfl (by kernel_rfl) (by kernel_rfl) (by kernel_rfl) (fun _ _ _ _ h => h) rfl ?_; apply Exists.intro; refine ⟨fun v1 hv1 => ?_, ?_⟩; (· (go_simp; rfl)); simp only [Act.put, List.setIfInBounds_toArray, List.set_cons_zero, List.set_cons_succ]
    clear ha hb
    have kx := block_cell rd0
    have fx := block_frozen rd0
    refine anyT_one 2 rfl (by kernel_rfl) rfl ?_
    unfold Oper.wp
    go_simp
    generalize hV1 : ((((((((Wd.setCell ⟨w.heap.size + 1, 0, none⟩ _).setCell ⟨w.heap.size + 1, 1, none⟩ _).setCell ⟨w.heap.size + 1, 2, none⟩ _).setCell ⟨w.heap.size + 1, 3, none⟩ _).setCell ⟨w.heap.size + 1, 4, none⟩ _).setCell ⟨w.heap.size + 1, 5, none⟩ _).setCell ⟨w.heap.size + 1, 6, none⟩ _).setCell ⟨w.heap.size + 1, 7, none⟩ _).setCell ⟨w.heap.size + 1, 8, none⟩ _ = Y0
    have hV9 : Y0 = putRow Wd (w.heap.size + 1) 0 [.int .u8 q1, .int .u16 q2, .bool q3, .int .u8 q4, .int .u8 pr, .int .u32 qs, .int .u32 qd, .slice b7 l7 c7, .slice b8 dq.length c8] := hV1.symm
    have hbY0 : But (fun b => b = w.heap.size + 1) Wd Y0 := by rw [hV9]; exact putRow_but (E := fun b => b = w.heap.size + 1) (n := w.heap.size + 1) rfl _ _ _ _ (But.refl _ _)
    have hbY1 : But (fun b => b = w.heap.size + 1 ∨ b = w.heap.size + 1 + 1) Wd Y0 := by rw [hV9]; exact putRow_but (E := fun b => b = w.heap.size + 1 ∨ b = w.heap.size + 1 + 1) (n := w.heap.size + 1) (.inl rfl) _ _ _ _ (But.refl _ _)
    have pY0 := putRow_all ([.int .u8 q1, .int .u16 q2, .bool q3, .int .u8 q4, .int .u8 pr, .int .u32 qs, .int .u32 qd, .slice b7 l7 c7, .slice b8 dq.length c8] : List Value) rd0 rfl
    rw [← hV9] at pY0
    have sY0 := (hbY0.block (w.heap.size + 1 + 1) (Array.getElem?_eq_some_iff.1 sd0).1 (by omega)).trans sd0
    refine ⟨hbY1, ?_⟩
    clear hV1 hV9 kx fx
    have kx := block_cell sY0
    have fx := block_frozen sY0
    refine anyT_one 3 rfl (by kernel_rfl) rfl ?_
    unfold Oper.wp
    go_simp
    generalize hV2 : ((((Y0.setCell ⟨w.heap.size + 1 + 1, 0, none⟩ _).setCell ⟨w.heap.size + 1 + 1, 1, none⟩ _).setCell ⟨w.heap.size + 1 + 1, 2, none⟩ _).setCell ⟨w.heap.size + 1 + 1, 3, none⟩ _).setCell ⟨w.heap.size + 1 + 1, 4, none⟩ _ = V
    have hV8 : V = putRow Y0 (w.heap.size + 1 + 1) 0 [.int .u8 pr, .int .u32 qs, .int .u32 qd, .int .u16 g0, .int .u16 g2] := hV2.symm
    have hbV : But (fun b => b = w.heap.size + 1 + 1) Y0 V := by rw [hV8]; exact putRow_but (E := fun b => b = w.heap.size + 1 + 1) (n := w.heap.size + 1 + 1) rfl _ _ _ _ (But.refl _ _)
    have hbV1 : But (fun b => b = w.heap.size + 1 ∨ b = w.heap.size + 1 + 1) Y0 V := by rw [hV8]; exact putRow_but (E := fun b => b = w.heap.size + 1 ∨ b = w.heap.size + 1 + 1) (n := w.heap.size + 1 + 1) (.inr rfl) _ _ _ _ (But.refl _ _)
    have qV := putRow_all ([.int .u8 pr, .int .u32 qs, .int .u32 qd, .int .u16 g0, .int .u16 g2] : List Value) sY0 rfl
    rw [← hV8] at qV
    have pV := (hbV.block (w.heap.size + 1) (Array.getElem?_eq_some_iff.1 pY0).1 (by omega)).trans pY0
    refine ⟨hbV1, ?_⟩
    clear hV2 hV8 kx fx
    refine anyT_one 4 rfl (by kernel_rfl) rfl ?_
    unfold Oper.wp
    go_simp
    refine ⟨But.refl _ _, ?_⟩
    refine anyT_done (by kernel_rfl) ?_
    have PV := block_cell pV
    have QV := block_cell qV
    have hwV : Below w.heap.size w V := (hwd.trans (hbY0.below hwd.size (fun k hk e => by omega))).trans (hbV.below (Nat.le_trans hwd.size hbY0.size) (fun k hk e => by omega))
    go_wp2_with fail
    exact bodyPost_ret (v := .tuple #[.agg #[.int .u8 q1, .int .u16 q2, .bool q3, .int .u8 q4, .int .u8 pr, .int .u32 qs, .int .u32 qd, .slice b7 l7 c7, .slice b8 dq.length c8], .agg #[.int .u8 pr, .int .u32 qs, .int .u32 qd, .int .u16 g0, .int .u16 g2], .int .i64 0]) (by simp [results, Tryd.results35, go_sem, PV, QV]) rfl ⟨hwV, by rw [HDQ.out, HG0.out, HG2.out, HQS.out, HQD.out]; exact rin_mk _ _ _ _ _ _ _ _ _ _ _ _ _ _ _⟩
end Go.Proofs.YtojoaidnkljcpaaDoor
