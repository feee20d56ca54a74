/- Several texts in one. -/
import Derived.Test.YtghpakfjpdifaaaGreatDoorX5
import Derived.Test.YtghpakfjpdifaaaGreatDoorX7
import Derived.Test.YtghpakfjpdifaaaGreatDoorX9
import Derived.Test.YtghpakfjpdifaaaGreatDoorX4
import Derived.Test.YtghpakfjpdifaaaGreatDoorX6
import Derived.Test.YtghpakfjpdifaaaGreatDoorKN
import Derived.Test.YtghpakfjpdifaaaGreatDoorX2
import Derived.Test.YtghpakfjpdifaaaGreatDoorV5
import Derived.Test.YtghpakfjpdifaaaGreatDoorHd
import Derived.Test.YtghpakfjpdifaaaGreatDoorX3
/- The document's read of bytes. -/
namespace Go.Proofs.YtghpakfjpdifaaaGreatDoor
open Go.RowKit Go.Shelf
set_option maxRecDepth 100000
set_option linter.unusedVariables false
set_option linter.unusedSimpArgs false

theorem rget16_rd {n₀ : Nat} (sv : Value) (zs : List Int) (hB : Mt.By zs) (p : Nat) (h : p + 1 < zs.length) (hl : zs.length ≤ 140737488355328) (w : World) (hI : Rd n₀ w sv zs) :
  Calls Tryz.prog 62 #[sv, .int .i64 p] w fun e w' => e = .returned (.int .u16 (wat zs p)) ∧ Later w w' := by
 refine (rget16_at sv zs hB p (by omega) hl w hI).mono ?_
 rintro e w' ⟨rfl, q, rfl⟩
 refine ⟨?_, below_draw (Later.refl w) q⟩
 unfold getAt2
 rw [if_pos (by omega), Int.toNat_natCast]
theorem rget32_rd {n₀ : Nat} (sv : Value) (zs : List Int) (hB : Mt.By zs) (p : Nat) (h : p + 3 < zs.length) (hl : zs.length ≤ 140737488355328) (w : World) (hI : Rd n₀ w sv zs) :
  Calls Tryz.prog 36 #[sv, .int .i64 p] w fun e w' => e = .returned (.int .u32 (wat4 zs p)) ∧ Later w w' := by
 refine (rget32_at sv zs hB p (by omega) hl w hI).mono ?_
 rintro e w' ⟨rfl, q, rfl⟩
 refine ⟨?_, below_draw (Later.refl w) q⟩
 unfold getAt4
 rw [if_pos (by omega), Int.toNat_natCast]

theorem res_rread (tm : Array Value) (pb : Nat) (c : Int) (v0 v1 v2 v3 v4 v5 v6 v7 v8 : Value) (w : World) (h4 : tm[4]? = some (.pointer (some ⟨pb, 0, none⟩))) (h5 : tm[5]? = some (.int .i64 c))
  (hp : w.heap[pb]? = some (.cells #[v0, v1, v2, v3, v4, v5, v6, v7, v8] 26 (0, 0))) :
  (results Tryz.f37 tm).run Tryz.prog w = .ok (.tuple #[.agg #[v0, v1, v2, v3, v4, v5, v6, v7, v8], .int .i64 c]) w := by
 have kP := block_cell hp
 simp [results, Tryz.results37, go_sem, h4, h5, kP]

theorem rexit {R : Ending → World → Prop} (tm : Array Value) (pb : Nat) (c : Int) (V : World) (h4 : tm[4]? = some (.pointer (some ⟨pb, 0, none⟩))) (h5 : tm[5]? = some (.int .i64 c)) (hV : V.heap[pb]? = some (.cells zc.toArray 26 (0, 0)))
  (hR : R (.returned (.tuple #[.agg zc.toArray, .int .i64 c])) V) : bodyPost Tryz.prog Tryz.f37 R .ret { tmps := tm, defers := [] } V :=
 bodyPost_ret (res_rread tm pb c _ _ _ _ _ _ _ _ _ V h4 h5 hV) rfl hR

set_option maxHeartbeats 8000000 in
theorem rread_any (q : Bool) (sv : Value) (zs : List Int) (w : World) (hB : Mt.By zs) (hl : zs.length ≤ 140737488355328) (hI : Rd w.heap.size w sv zs) :
  Calls Tryz.prog 37 #[sv, .bool q] w fun e w' => Below w.heap.size w w' ∧
   ((rde q zs ≠ 0 ∧ e = .returned (.tuple #[.agg zc.toArray, .int .i64 (rde q zs)])) ∨
    (rde q zs = 0 ∧ ∃ so sd, e = .returned (.tuple #[pkt zs so sd, .int .i64 0]) ∧ Ow w.heap.size w' so ((zs.take (hl4 zs).toNat).drop 20) ∧ Ow w.heap.size w' sd ((zs.take (ral q zs).toNat).drop (hl4 zs).toNat))) := by
 obtain ⟨i0, hi, hz0, hz1, hz2⟩ := info_parts info_u8
 obtain ⟨a, cap, rfl, hl1, hm1⟩ := hI.slice
 have hb1 : Below w.heap.size w (w.alloc (.cells zc.toArray 26)) := (Below.refl _ _).alloc (Nat.le_refl _) _
 have p1 := heap_alloc_new w (.cells zc.toArray 26)
 have s1 : (w.alloc (.cells zc.toArray 26)).heap.size = w.heap.size + 1 := by simp
 have HM : Hid (rde q zs = if msr zs ≠ 0 then msr zs else if (zs.length : Int) < ral q zs then 3 else if chk zs ≠ 0 then chk zs else if q = true ∧ ral q zs - hl4 zs < 8 then 3 else 0) := rfl
 go_enter Tryz.func37, Tryz.ntmps37
 by_cases h1 : zs.length < 20
 ·have t1 : (zs.length : Int) < 20 := by omega
  have HR : Hid (rde q zs = 3) := by show _ = _; unfold rde; rw [show msr zs = 3 from by unfold msr; rw [if_pos h1]]; rfl
  have P2 := block_cell p1
  have F2 := block_frozen p1
  go_wp2_with fail
  exact rexit _ w.heap.size 3 _ rfl rfl p1 ⟨hb1, .inl (by rw [HR.out]; exact ⟨by omega, rfl⟩)⟩

 have t1 : ¬ (zs.length : Int) < 20 := by omega
 obtain ⟨b, off, cap', e', _, _, hb, hc⟩ := hI.cells (by omega)
 cases e'
 have d0 : (w.alloc (.cells zc.toArray 26)).cell? ⟨b, off, none⟩ = some (.int .u8 (zs[0]?.getD 0)) := (hb1.cell (p := ⟨b, off, none⟩) hb).trans (by have := hc 0 (by omega); rwa [Nat.add_zero] at this)
 have b0 := hB.at 0
 have hlz : (0 : Int) < zs.length := by omega
 by_cases h2 : zs[0]?.getD 0 / 16 ≠ 4
 ·have t2 : (zs[0]?.getD 0 / 16 != 4) = true := by simpa using h2
  have HR : Hid (rde q zs = 6) := by show _ = _; unfold rde; rw [show msr zs = 6 from by unfold msr; rw [if_neg h1, if_pos h2]]; rfl
  have P2 := block_cell p1
  have F2 := block_frozen p1
  go_wp2_with fail
  exact rexit _ w.heap.size 6 _ rfl rfl p1 ⟨hb1, .inl (by rw [HR.out]; exact ⟨by omega, rfl⟩)⟩

 have t2 : (zs[0]?.getD 0 / 16 != 4) = false := by simpa using h2
 have HH : hl4 zs = zs[0]?.getD 0 % 16 * 4 := rfl
 have hh := hl4_bd hB
 by_cases h3 : hl4 zs < 20
 ·have t3 : zs[0]?.getD 0 % 16 * 4 < 20 := by rw [← HH]; exact h3
  have HR : Hid (rde q zs = 4) := by show _ = _; unfold rde; rw [show msr zs = 4 from by unfold msr; rw [if_neg h1, if_neg h2, if_pos h3]]; rfl
  have P2 := block_cell p1
  have F2 := block_frozen p1
  go_wp2_with fail
  exact rexit _ w.heap.size 4 _ rfl rfl p1 ⟨hb1, .inl (by rw [HR.out]; exact ⟨by omega, rfl⟩)⟩

 have t3 : ¬ zs[0]?.getD 0 % 16 * 4 < 20 := by rw [← HH]; exact h3
 by_cases h4 : (zs.length : Int) < hl4 zs
 ·have t4 : (zs.length : Int) < zs[0]?.getD 0 % 16 * 4 := by rw [← HH]; exact h4
  have HR : Hid (rde q zs = 3) := by show _ = _; unfold rde; rw [show msr zs = 3 from by unfold msr; rw [if_neg h1, if_neg h2, if_neg h3, if_pos h4]]; rfl
  have P2 := block_cell p1
  have F2 := block_frozen p1
  go_wp2_with fail
  exact rexit _ w.heap.size 3 _ rfl rfl p1 ⟨hb1, .inl (by rw [HR.out]; exact ⟨by omega, rfl⟩)⟩

 have t4 : ¬ (zs.length : Int) < zs[0]?.getD 0 % 16 * 4 := by rw [← HH]; exact h4
 go_wp2_with fail
 clear d0
 refine (rget16_rd _ zs hB 2 (by omega) hl _ ((hI.below hb1).mono (Nat.le_succ _))).mono ?_
 rintro e w2 ⟨rfl, hl2⟩
 obtain ⟨k, hk⟩ := Int.eq_ofNat_of_zero_le (show 0 ≤ zs[0]?.getD 0 % 16 * 4 by omega)
 have HK : Hid (hl4 zs = (k : Int)) := by show _ = _; rw [HH]; exact hk
 rw [hk] at t3 t4 ⊢
 have hkl : 20 ≤ k ∧ k ≤ zs.length := by omega
 have hkc : k ≤ cap := by omega
 have hn2 := wat_bd hB 2
 have z2 := hl2.size
 have HM2 : ∀ x, msr zs = x → Hid (msr zs = x) := fun _ h => h
 by_cases h5 : wat zs 2 < hl4 zs
 ·have t5 : wat zs 2 < (k : Int) := by omega
  have HR : Hid (rde q zs = 4) := by show _ = _; unfold rde; rw [show msr zs = 4 from by unfold msr; rw [if_neg h1, if_neg h2, if_neg (by omega), if_neg (by omega), if_pos h5]]; rfl
  have pk := ((hl2).block w.heap.size (by omega)).trans p1
  have Pk := block_cell pk
  have Fk := block_frozen pk
  go_wp2_with fail
  clear Pk Fk
  generalize hV : ((((((((w2.setCell ⟨w.heap.size, 0, none⟩ _).setCell ⟨w.heap.size, 1, none⟩ _).setCell ⟨w.heap.size, 2, none⟩ _).setCell ⟨w.heap.size, 3, none⟩ _).setCell ⟨w.heap.size, 4, none⟩ _).setCell ⟨w.heap.size, 5, none⟩ _).setCell ⟨w.heap.size, 6, none⟩ _).setCell ⟨w.heap.size, 7, none⟩ _).setCell ⟨w.heap.size, 8, none⟩ _ = V
  have hV9 : V = putRow w2 w.heap.size 0 zc := hV.symm
  have hb8 : But (fun b => b = w.heap.size) w2 V := by rw [hV9]; exact putRow_but (E := fun b => b = w.heap.size) (n := w.heap.size) rfl _ _ _ _ (But.refl _ _)
  have p8 := putRow_all zc pk rfl
  rw [← hV9] at p8
  exact rexit _ w.heap.size 4 _ rfl rfl p8 ⟨(hb1.trans ((hl2).mono (by omega))).trans (hb8.below (Nat.le_trans (by omega) (hl2).size) (fun j h e => by omega)), .inl (by rw [HR.out]; exact ⟨by omega, rfl⟩)⟩

 have t5 : ¬ wat zs 2 < (k : Int) := by omega
 have hm0 : Hid (msr zs = 0) := by show _ = _; unfold msr; rw [if_neg h1, if_neg h2, if_neg (by omega), if_neg (by omega), if_neg (by omega)]
 cases q
 ·by_cases h6 : (zs.length : Int) < wat zs 2
  ·have HR : Hid (rde false zs = 3) := by show _ = _; unfold rde; rw [hm0.out, if_neg (by simp), if_pos (by simpa [ral] using h6)]
   have pk := ((hl2).block w.heap.size (by omega)).trans p1
   have Pk := block_cell pk
   have Fk := block_frozen pk
   go_wp2_with fail
   clear Pk Fk
   generalize hV : ((((((((w2.setCell ⟨w.heap.size, 0, none⟩ _).setCell ⟨w.heap.size, 1, none⟩ _).setCell ⟨w.heap.size, 2, none⟩ _).setCell ⟨w.heap.size, 3, none⟩ _).setCell ⟨w.heap.size, 4, none⟩ _).setCell ⟨w.heap.size, 5, none⟩ _).setCell ⟨w.heap.size, 6, none⟩ _).setCell ⟨w.heap.size, 7, none⟩ _).setCell ⟨w.heap.size, 8, none⟩ _ = V
   have hV9 : V = putRow w2 w.heap.size 0 zc := hV.symm
   have hb8 : But (fun b => b = w.heap.size) w2 V := by rw [hV9]; exact putRow_but (E := fun b => b = w.heap.size) (n := w.heap.size) rfl _ _ _ _ (But.refl _ _)
   have p8 := putRow_all zc pk rfl
   rw [← hV9] at p8
   exact rexit _ w.heap.size 3 _ rfl rfl p8 ⟨(hb1.trans ((hl2).mono (by omega))).trans (hb8.below (Nat.le_trans (by omega) (hl2).size) (fun j h e => by omega)), .inl (by rw [HR.out]; exact ⟨by omega, rfl⟩)⟩

  go_wp2_with fail
  refine (rgood_any _ (zs.take k) (hB.take _) (by simp; omega) w2 (((hI.take k (by omega)).below (hb1.trans (hl2.mono (by omega)))).mono (by omega))).mono ?_
  rintro e w3 ⟨rfl, hl3⟩
  have hL3 : Later _ w3 := hl2.trans hl3
  have z3 := hL3.size
  cases hg : (Mt.cks (zs.take k) == 0)
  ·have hc5 : chk zs = 5 := by unfold chk; rw [HK.out, Int.toNat_natCast, if_pos (by simpa using hg)]
   have HR : Hid (rde false zs = 5) := by show _ = _; unfold rde; rw [hm0.out, if_neg (by simp), if_neg (by simp [ral]; omega), hc5]; rfl
   clear hc5
   have pk := ((hL3).block w.heap.size (by omega)).trans p1
   have Pk := block_cell pk
   have Fk := block_frozen pk
   go_wp2_with fail
   clear Pk Fk
   generalize hV : ((((((((w3.setCell ⟨w.heap.size, 0, none⟩ _).setCell ⟨w.heap.size, 1, none⟩ _).setCell ⟨w.heap.size, 2, none⟩ _).setCell ⟨w.heap.size, 3, none⟩ _).setCell ⟨w.heap.size, 4, none⟩ _).setCell ⟨w.heap.size, 5, none⟩ _).setCell ⟨w.heap.size, 6, none⟩ _).setCell ⟨w.heap.size, 7, none⟩ _).setCell ⟨w.heap.size, 8, none⟩ _ = V
   have hV9 : V = putRow w3 w.heap.size 0 zc := hV.symm
   have hb8 : But (fun b => b = w.heap.size) w3 V := by rw [hV9]; exact putRow_but (E := fun b => b = w.heap.size) (n := w.heap.size) rfl _ _ _ _ (But.refl _ _)
   have p8 := putRow_all zc pk rfl
   rw [← hV9] at p8
   exact rexit _ w.heap.size 5 _ rfl rfl p8 ⟨(hb1.trans ((hL3).mono (by omega))).trans (hb8.below (Nat.le_trans (by omega) (hL3).size) (fun j h e => by omega)), .inl (by rw [HR.out]; exact ⟨by omega, rfl⟩)⟩

  have hg0 : Mt.cks (zs.take k) = 0 := by simpa using hg
  have Hg := hide hg0
  clear hg hg0
  go_wp2_with fail
  refine (rget16_rd _ zs hB 6 (by omega) hl w3 (hI.below (hb1.trans (hL3.mono (by omega))))).mono ?_
  rintro e w4 ⟨rfl, hl4'⟩
  have hL4 : Later _ w4 := hL3.trans hl4'
  have z4 := hL4.size
  have hff := wat_bd hB 6
  by_cases h7 : wat zs 6 % 16384 ≠ 0
  ·have t7 : (wat zs 6 % 16384 != 0) = true := by simpa using h7
   have hc5 : chk zs = 7 := by unfold chk; rw [HK.out, Int.toNat_natCast, if_neg (by simp [Hg.out]), if_pos h7]
   have HR : Hid (rde false zs = 7) := by show _ = _; unfold rde; rw [hm0.out, if_neg (by simp), if_neg (by simp [ral]; omega), hc5]; rfl
   clear hc5
   have pk := ((hL4).block w.heap.size (by omega)).trans p1
   have Pk := block_cell pk
   have Fk := block_frozen pk
   go_wp2_with fail
   clear Pk Fk
   generalize hV : ((((((((w4.setCell ⟨w.heap.size, 0, none⟩ _).setCell ⟨w.heap.size, 1, none⟩ _).setCell ⟨w.heap.size, 2, none⟩ _).setCell ⟨w.heap.size, 3, none⟩ _).setCell ⟨w.heap.size, 4, none⟩ _).setCell ⟨w.heap.size, 5, none⟩ _).setCell ⟨w.heap.size, 6, none⟩ _).setCell ⟨w.heap.size, 7, none⟩ _).setCell ⟨w.heap.size, 8, none⟩ _ = V
   have hV9 : V = putRow w4 w.heap.size 0 zc := hV.symm
   have hb8 : But (fun b => b = w.heap.size) w4 V := by rw [hV9]; exact putRow_but (E := fun b => b = w.heap.size) (n := w.heap.size) rfl _ _ _ _ (But.refl _ _)
   have p8 := putRow_all zc pk rfl
   rw [← hV9] at p8
   exact rexit _ w.heap.size 7 _ rfl rfl p8 ⟨(hb1.trans ((hL4).mono (by omega))).trans (hb8.below (Nat.le_trans (by omega) (hL4).size) (fun j h e => by omega)), .inl (by rw [HR.out]; exact ⟨by omega, rfl⟩)⟩

  have t7 : (wat zs 6 % 16384 != 0) = false := by simpa using h7
  by_cases h8 : 32768 ≤ wat zs 6
  ·have hc5 : chk zs = 4 := by unfold chk; rw [HK.out, Int.toNat_natCast, if_neg (by simp [Hg.out]), if_neg h7, if_pos h8]
   have HR : Hid (rde false zs = 4) := by show _ = _; unfold rde; rw [hm0.out, if_neg (by simp), if_neg (by simp [ral]; omega), hc5]; rfl
   clear hc5
   have pk := ((hL4).block w.heap.size (by omega)).trans p1
   have Pk := block_cell pk
   have Fk := block_frozen pk
   go_wp2_with fail
   clear Pk Fk
   generalize hV : ((((((((w4.setCell ⟨w.heap.size, 0, none⟩ _).setCell ⟨w.heap.size, 1, none⟩ _).setCell ⟨w.heap.size, 2, none⟩ _).setCell ⟨w.heap.size, 3, none⟩ _).setCell ⟨w.heap.size, 4, none⟩ _).setCell ⟨w.heap.size, 5, none⟩ _).setCell ⟨w.heap.size, 6, none⟩ _).setCell ⟨w.heap.size, 7, none⟩ _).setCell ⟨w.heap.size, 8, none⟩ _ = V
   have hV9 : V = putRow w4 w.heap.size 0 zc := hV.symm
   have hb8 : But (fun b => b = w.heap.size) w4 V := by rw [hV9]; exact putRow_but (E := fun b => b = w.heap.size) (n := w.heap.size) rfl _ _ _ _ (But.refl _ _)
   have p8 := putRow_all zc pk rfl
   rw [← hV9] at p8
   exact rexit _ w.heap.size 4 _ rfl rfl p8 ⟨(hb1.trans ((hL4).mono (by omega))).trans (hb8.below (Nat.le_trans (by omega) (hL4).size) (fun j h e => by omega)), .inl (by rw [HR.out]; exact ⟨by omega, rfl⟩)⟩

  have hc0 : Hid (chk zs = 0) := by show _ = _; unfold chk; rw [HK.out, Int.toNat_natCast, if_neg (by simp [Hg.out]), if_neg h7, if_neg h8]

  have HR : Hid (rde false zs = 0) := by show _ = _; unfold rde; rw [hm0.out, if_neg (by simp), if_neg (by simp [ral]; omega), hc0.out, if_neg (by simp), if_neg (by simp)]

  go_wp2_with fail
  obtain ⟨n, hn⟩ := Int.eq_ofNat_of_zero_le (show 0 ≤ wat zs 2 by omega)
  have hkn : 20 ≤ k ∧ k ≤ n ∧ n ≤ zs.length := by omega
  have HN : Hid (ral false zs = n) := by show _ = _; simp [ral]; omega
  have Hn := hide hn
  rw [hn]
  clear hn

  have d1 := hc 1 (by omega)
  have d8 := hc 8 (by omega)
  have d9 := hc 9 (by omega)
  have hbw4 := hb1.trans (hL4.mono (by omega))
  generalize gz1 : zs[1]?.getD 0 = z1 at *
  generalize gz8 : zs[8]?.getD 0 = z8 at *
  generalize gz9 : zs[9]?.getD 0 = z9 at *
  have G1 := hide gz1
  have G8 := hide gz8
  have G9 := hide gz9
  clear gz1 gz8 gz9
  have i1 : (1 : Int) < zs.length := by omega
  have i8 : (8 : Int) < zs.length := by omega
  have i9 : (9 : Int) < zs.length := by omega
  refine anyR_begin (R := KI w4.heap.size 26 9 (List.toArray [.int .u8 z1, .int .u16 (wat zs 4), .bool (decide (16384 ≤ wat zs 6)), .int .u8 z8, .int .u8 z9, .int .u32 (wat4 zs 12), .int .u32 (wat4 zs 16), .slice none 0 0, .slice none 0 0])) (KI.pre _ _ _ _) (fun w => KI.of (Later.drew w)) 20 rfl (by kernel_rfl) (fun W5 hW5 => ?_)
  have hbel : ∀ w1, KI w4.heap.size 26 9 (List.toArray [.int .u8 z1, .int .u16 (wat zs 4), .bool (decide (16384 ≤ wat zs 6)), .int .u8 z8, .int .u8 z9, .int .u32 (wat4 zs 12), .int .u32 (wat4 zs 16), .slice none 0 0, .slice none 0 0]) W5 w1 → Below w.heap.size w w1 := fun w1 h => hbw4.trans (((hW5.trans h).1.below (Nat.le_refl _) (fun k hk e => by omega)).mono (by omega))
  have hr1 : ∀ w1, KI w4.heap.size 26 9 (List.toArray [.int .u8 z1, .int .u16 (wat zs 4), .bool (decide (16384 ≤ wat zs 6)), .int .u8 z8, .int .u8 z9, .int .u32 (wat4 zs 12), .int .u32 (wat4 zs 16), .slice none 0 0, .slice none 0 0]) W5 w1 → Rd w.heap.size w1 (.slice (some ⟨b, off, none⟩) zs.length cap) zs := fun w1 h => hI.below (hbel w1 h)
  have e1 : ∀ w1, KI w4.heap.size 26 9 (List.toArray [.int .u8 z1, .int .u16 (wat zs 4), .bool (decide (16384 ≤ wat zs 6)), .int .u8 z8, .int .u8 z9, .int .u32 (wat4 zs 12), .int .u32 (wat4 zs 16), .slice none 0 0, .slice none 0 0]) W5 w1 → w1.cell? ⟨b, off + 1, none⟩ = some (.int .u8 z1) := fun w1 h => ((hbel w1 h).cell (p := ⟨b, off + 1, none⟩) hb).trans d1
  have e8 : ∀ w1, KI w4.heap.size 26 9 (List.toArray [.int .u8 z1, .int .u16 (wat zs 4), .bool (decide (16384 ≤ wat zs 6)), .int .u8 z8, .int .u8 z9, .int .u32 (wat4 zs 12), .int .u32 (wat4 zs 16), .slice none 0 0, .slice none 0 0]) W5 w1 → w1.cell? ⟨b, off + 8, none⟩ = some (.int .u8 z8) := fun w1 h => ((hbel w1 h).cell (p := ⟨b, off + 8, none⟩) hb).trans d8
  have e9 : ∀ w1, KI w4.heap.size 26 9 (List.toArray [.int .u8 z1, .int .u16 (wat zs 4), .bool (decide (16384 ≤ wat zs 6)), .int .u8 z8, .int .u8 z9, .int .u32 (wat4 zs 12), .int .u32 (wat4 zs 16), .slice none 0 0, .slice none 0 0]) W5 w1 → w1.cell? ⟨b, off + 9, none⟩ = some (.int .u8 z9) := fun w1 h => ((hbel w1 h).cell (p := ⟨b, off + 9, none⟩) hb).trans d9
  clear d1 d8 d9
  refine rV (KI.pre _ _ _ _) 0 rfl rfl ?_; apply Exists.intro; refine ⟨fun w1 hw1 => ?_, ?_⟩; (· (go_simp; rfl)); simp only [Act.put, sA, sB, sC]
  refine rV (KI.pre _ _ _ _) 1 rfl rfl ?_; apply Exists.intro; refine ⟨fun w1 hw1 => ?_, ?_⟩; (· (go_simp; rfl)); simp only [Act.put, sA, sB, sC]
  refine rV (KI.pre _ _ _ _) 2 rfl rfl ?_; apply Exists.intro; refine ⟨fun w1 hw1 => ?_, ?_⟩; (· (go_simp; rfl)); simp only [Act.put, sA, sB, sC]
  refine rV (KI.pre _ _ _ _) 3 rfl rfl ?_; apply Exists.intro; refine ⟨fun w1 hw1 => ?_, ?_⟩; (· (go_simp; rfl)); simp only [Act.put, sA, sB, sC]
  refine anyR_take (KI.pre _ _ _ _) 4 (.int .u16 (wat zs 4)) rfl (by kernel_rfl) (by kernel_rfl) (by kernel_rfl) (fun _ _ _ h => h) rfl (fun w1 hw1 => goes_call 62 #[.slice (some ⟨b, off, none⟩) zs.length cap, .int .i64 4] (by go_simp) ?_) ?_
  ·exact (rget16_rd _ zs hB 4 (by omega) hl w1 (hr1 w1 hw1)).mono fun e w' ⟨he, hw⟩ => ⟨he, KI.of hw⟩
  simp only [Act.put, sA, sB, sC]
  refine rV (KI.pre _ _ _ _) 5 rfl rfl ?_; apply Exists.intro; refine ⟨fun w1 hw1 => ?_, ?_⟩; (· (go_simp; rfl)); simp only [Act.put, sA, sB, sC]
  refine rV (KI.pre _ _ _ _) 6 rfl rfl ?_; apply Exists.intro; refine ⟨fun w1 hw1 => ?_, ?_⟩; (· (go_simp; rfl)); simp only [Act.put, sA, sB, sC]
  refine rV (KI.pre _ _ _ _) 7 rfl rfl ?_; apply Exists.intro; refine ⟨fun w1 hw1 => ?_, ?_⟩; (· (go_simp; rfl)); simp only [Act.put, sA, sB, sC]
  refine rV (KI.pre _ _ _ _) 8 rfl rfl ?_; apply Exists.intro; refine ⟨fun w1 hw1 => ?_, ?_⟩; (· (go_simp; rfl)); simp only [Act.put, sA, sB, sC]
  refine rV (KI.pre _ _ _ _) 9 rfl rfl ?_; apply Exists.intro; refine ⟨fun w1 hw1 => ?_, ?_⟩; (· (go_simp; rfl)); simp only [Act.put, sA, sB, sC]
  refine rV (KI.pre _ _ _ _) 10 rfl rfl ?_; apply Exists.intro; refine ⟨fun w1 hw1 => ?_, ?_⟩; (· (go_simp; rfl)); simp only [Act.put, sA, sB, sC]
  refine rV (KI.pre _ _ _ _) 11 rfl rfl ?_; apply Exists.intro; refine ⟨fun w1 hw1 => ?_, ?_⟩; (· (go_simp; rfl)); simp only [Act.put, sA, sB, sC]
  refine rV (KI.pre _ _ _ _) 12 rfl rfl ?_; apply Exists.intro; refine ⟨fun w1 hw1 => ?_, ?_⟩; (· (go_simp; rfl)); simp only [Act.put, sA, sB, sC]
  refine rV (KI.pre _ _ _ _) 13 rfl rfl ?_; apply Exists.intro; refine ⟨fun w1 hw1 => ?_, ?_⟩; (· (go_simp; rfl)); simp only [Act.put, sA, sB, sC]
  refine anyR_take (KI.pre _ _ _ _) 14 (.int .u32 (wat4 zs 12)) rfl (by kernel_rfl) (by kernel_rfl) (by kernel_rfl) (fun _ _ _ h => h) rfl (fun w1 hw1 => goes_call 36 #[.slice (some ⟨b, off, none⟩) zs.length cap, .int .i64 12] (by go_simp) ?_) ?_
  ·exact (rget32_rd _ zs hB 12 (by omega) hl w1 (hr1 w1 hw1)).mono fun e w' ⟨he, hw⟩ => ⟨he, KI.of hw⟩
  simp only [Act.put, sA, sB, sC]
  refine rV (KI.pre _ _ _ _) 15 rfl rfl ?_; apply Exists.intro; refine ⟨fun w1 hw1 => ?_, ?_⟩; (· (go_simp; rfl)); simp only [Act.put, sA, sB, sC]
  refine anyR_take (KI.pre _ _ _ _) 16 (.int .u32 (wat4 zs 16)) rfl (by kernel_rfl) (by kernel_rfl) (by kernel_rfl) (fun _ _ _ h => h) rfl (fun w1 hw1 => goes_call 36 #[.slice (some ⟨b, off, none⟩) zs.length cap, .int .i64 16] (by go_simp) ?_) ?_
  ·exact (rget32_rd _ zs hB 16 (by omega) hl w1 (hr1 w1 hw1)).mono fun e w' ⟨he, hw⟩ => ⟨he, KI.of hw⟩
  simp only [Act.put, sA, sB, sC]
  refine rV (KI.pre _ _ _ _) 17 rfl rfl ?_; apply Exists.intro; refine ⟨fun w1 hw1 => ?_, ?_⟩; (· (go_simp; rfl)); simp only [Act.put, sA, sB, sC]

  refine anyR_one 18 rfl (by kernel_rfl) rfl (fun W6 hW6 => ?_)
  have hs6 : w4.heap.size ≤ W6.heap.size := (hW5.trans hW6).1.size
  unfold Oper.wp
  go_simp
  refine ⟨KI.of ((Below.refl _ _).alloc (Nat.le_refl _) _), ?_⟩
  refine anyR_one 19 rfl (by kernel_rfl) rfl (fun W7 hW7 => ?_)
  have hwr : Wr W6.heap.size 9 26 W7 := hW7.2.1 _ ⟨_, heap_alloc_new W6 _, rfl⟩
  have hst := KI.store (n₁ := w4.heap.size) [.int .u8 z1, .int .u16 (wat zs 4), .bool (decide (16384 ≤ wat zs 6)), .int .u8 z8, .int .u8 z9, .int .u32 (wat4 zs 12), .int .u32 (wat4 zs 16), .slice none 0 0, .slice none 0 0] hs6 hwr rfl
  obtain ⟨cur, hcur, hsz⟩ := hwr
  have k7 := block_cell hcur
  have f7 := block_frozen hcur
  have HS := hide hst
  clear hst
  unfold Oper.wp
  go_simp
  generalize hV : ((((((((W7.setCell ⟨W6.heap.size, 0, none⟩ _).setCell ⟨W6.heap.size, 1, none⟩ _).setCell ⟨W6.heap.size, 2, none⟩ _).setCell ⟨W6.heap.size, 3, none⟩ _).setCell ⟨W6.heap.size, 4, none⟩ _).setCell ⟨W6.heap.size, 5, none⟩ _).setCell ⟨W6.heap.size, 6, none⟩ _).setCell ⟨W6.heap.size, 7, none⟩ _).setCell ⟨W6.heap.size, 8, none⟩ _ = V
  have hV9 : V = putRow W7 W6.heap.size 0 [.int .u8 z1, .int .u16 (wat zs 4), .bool (decide (16384 ≤ wat zs 6)), .int .u8 z8, .int .u8 z9, .int .u32 (wat4 zs 12), .int .u32 (wat4 zs 16), .slice none 0 0, .slice none 0 0] := hV.symm
  have hst := HS.out
  rw [← hV9] at hst
  clear hV hV9 HS k7 f7
  refine ⟨hst.1, anyR_done (by kernel_rfl) (fun W8 hW8 => ?_)⟩
  have p8 := hW8.2.2 _ hst.2
  have hwW8 : Below w.heap.size w W8 := hbel W8 (((hW6.trans (KI.of ((Below.refl _ _).alloc (Nat.le_refl _) _))).trans hW7).trans (hst.1.trans hW8))
  have hq8 : w.heap.size < W6.heap.size := by omega
  have pw8 : Wr w.heap.size 9 26 W8 := hW8.2.1 _ (hst.1.2.1 _ (hW7.2.1 _ ((KI.of ((Below.refl W6.heap.size W6).alloc (Nat.le_refl _) _) : KI w4.heap.size 26 9 (List.toArray [.int .u8 z1, .int .u16 (wat zs 4), .bool (decide (16384 ≤ wat zs 6)), .int .u8 z8, .int .u8 z9, .int .u32 (wat4 zs 12), .int .u32 (wat4 zs 16), .slice none 0 0, .slice none 0 0]) W6 _).2.1 _ (hW6.2.1 _ (hW5.2.1 _ ⟨_, (hL4.block w.heap.size (by omega)).trans p1, rfl⟩)))))
  generalize W6.heap.size = pb at *
  clear hbel hr1 e1 e8 e9 hst hW7 hW6 hs6 hcur hsz hW8
  have hs8 := (bl9 p8)
  have P8 := block_cell p8
  go_wp2_with fail
  have hR8 := (((hI.below hwW8).take k (by omega)).cutAt 20 (by omega)).drew 1
  obtain ⟨v9, W9, hrun9, hown9, hgr9⟩ := run_app (P := Tryz.prog) W8.drew 24 24 5 (pb + 1) i0 Tryz.underlying24 hi hz0 hz1 hz2 (.slice none 0 0) [] (World.ownsRow_nil _ _ _ _) w.heap.size _ ((zs.take k).drop 20) hR8 (by simp; omega) hs8
  have hl9 : Later W8 W9 := Later.trans (Later.drew W8) ((Below.refl _ W8.drew).grown hgr9 (Nat.le_refl _) (fun _ e => by cases e))
  have hO9 := Ow.of_row hown9
  rw [List.nil_append] at hO9
  obtain ⟨a9, cap9, rfl, hq9, hm9⟩ := hO9.slice
  clear hown9 hgr9 hR8
  have p9 := (hl9.block pb hs8).trans p8
  have P9 := block_cell p9
  have F9 := block_frozen p9
  have hLo : Hid (((zs.take k).drop 20).length = k - 20) := by show _ = _; simp; omega
  rw [hLo.out] at hrun9 hO9
  have i20 : (20 : Int) ≤ k := by omega
  go_region_law (refine step_run rfl (.tmp 92) (.tmp 95) 24 rfl _ _ rfl rfl _ W9 hrun9 ?_)
  clear hrun9 P8 P9 F9
  generalize (if cap = 20 then some (⟨b, off, none⟩ : Addr) else some ⟨b, off + 20, none⟩) = ad20 at *
  have p10 : (W9.setCell ⟨pb, 7, none⟩ (.slice a9 (k - 20) cap9)).heap[pb]? = some (.cells (List.toArray [.int .u8 z1, .int .u16 (wat zs 4), .bool (decide (16384 ≤ wat zs 6)), .int .u8 z8, .int .u8 z9, .int .u32 (wat4 zs 12), .int .u32 (wat4 zs 16), .slice a9 (k - 20) cap9, .slice none 0 0]) 26 (0, 0)) := heap_set1 p9 7 (.slice a9 (k - 20) cap9)
  have hE9 : But (fun b => b = pb) W9 (W9.setCell ⟨pb, 7, none⟩ (.slice a9 (k - 20) cap9)) := (But.refl (fun b => b = pb) W9).setCell (p := ⟨pb, 7, none⟩) (E := fun b => b = pb) rfl _
  have hO10 := hO9.but hE9 (fun b h e => by omega)
  have hw10 : Below w.heap.size w _ := (hwW8.trans (hl9.mono hwW8.size)).setCell (p := ⟨pb, 7, none⟩) (Nat.le_of_lt hq8) (.slice a9 (k - 20) cap9)
  have pw10 : Wr w.heap.size 9 26 (W9.setCell ⟨pb, 7, none⟩ (.slice a9 (k - 20) cap9)) := by
   obtain ⟨c, h1, h2⟩ := pw8.later hl9
   exact ⟨c, (hE9.block _ (bl9 h1) (by omega)).trans h1, h2⟩
  generalize W9.setCell ⟨pb, 7, none⟩ (.slice a9 (k - 20) cap9) = W10 at *
  clear hO9 p9 hE9 hl9 hwW8 pw8
  have hs10 := (bl9 p10)
  have P10 := block_cell p10
  go_wp2_with fail
  have hR10 := (((hI.below hw10).take n (by omega)).cutAt k (by omega)).drew 1
  obtain ⟨v11, W11, hrun11, hown11, hgr11⟩ := run_app (P := Tryz.prog) W10.drew 24 24 5 (pb + 1) i0 Tryz.underlying24 hi hz0 hz1 hz2 (.slice none 0 0) [] (World.ownsRow_nil _ _ _ _) w.heap.size _ ((zs.take n).drop k) hR10 (by simp; omega) hs10
  have hl11 : Later W10 W11 := Later.trans (Later.drew W10) ((Below.refl _ W10.drew).grown hgr11 (Nat.le_refl _) (fun _ e => by cases e))
  have hO11 := Ow.of_row hown11
  rw [List.nil_append] at hO11
  obtain ⟨a11, cap11, rfl, hq11, hm11⟩ := hO11.slice
  clear hown11 hgr11 hR10
  have p11 := (hl11.block pb hs10).trans p10
  have P11 := block_cell p11
  have F11 := block_frozen p11
  have hLd : Hid (((zs.take n).drop k).length = n - k) := by show _ = _; simp; try omega
  rw [hLd.out] at hrun11 hO11
  have ikn : (k : Int) ≤ n := by omega
  have inc : n ≤ cap := by omega
  have inc2 : (n : Int) ≤ cap := by omega
  go_region_law (refine step_run rfl (.tmp 99) (.tmp 103) 24 rfl _ _ rfl rfl _ W11 hrun11 ?_)
  clear hrun11 P10 P11 F11
  generalize (if cap = k then some (⟨b, off, none⟩ : Addr) else some ⟨b, off + k, none⟩) = adk at *
  have p12 : (W11.setCell ⟨pb, 8, none⟩ (.slice a11 (n - k) cap11)).heap[pb]? = some (.cells (List.toArray [.int .u8 z1, .int .u16 (wat zs 4), .bool (decide (16384 ≤ wat zs 6)), .int .u8 z8, .int .u8 z9, .int .u32 (wat4 zs 12), .int .u32 (wat4 zs 16), .slice a9 (k - 20) cap9, .slice a11 (n - k) cap11]) 26 (0, 0)) := heap_set1 p11 8 (.slice a11 (n - k) cap11)
  have hE11 : But (fun b => b = pb) W11 (W11.setCell ⟨pb, 8, none⟩ (.slice a11 (n - k) cap11)) := (But.refl (fun b => b = pb) W11).setCell (p := ⟨pb, 8, none⟩) (E := fun b => b = pb) rfl _
  have hO12 := hO11.but hE11 (fun b h e => by omega)
  have hO13 := (hO10.below hl11 (Nat.le_refl _)).but hE11 (fun b h e => by omega)
  have hw12 : Below w.heap.size w _ := (hw10.trans (hl11.mono hw10.size)).setCell (p := ⟨pb, 8, none⟩) (Nat.le_of_lt hq8) (.slice a11 (n - k) cap11)
  have pw12 : Wr w.heap.size 9 26 (W11.setCell ⟨pb, 8, none⟩ (.slice a11 (n - k) cap11)) := by
   obtain ⟨c, h1, h2⟩ := pw10.later hl11
   exact ⟨c, (hE11.block _ (bl9 h1) (by omega)).trans h1, h2⟩
  generalize W11.setCell ⟨pb, 8, none⟩ (.slice a11 (n - k) cap11) = W12 at *
  clear hO11 p11 hE11 hl11 hw10 pw10 hO10
  have P12 := block_cell p12
  obtain ⟨cur, hcur, hsz⟩ := pw12
  have C12 := block_cell hcur
  have F12 := block_frozen hcur
  go_wp2_with fail
  generalize hV : ((((((((W12.setCell ⟨w.heap.size, 0, none⟩ _).setCell ⟨w.heap.size, 1, none⟩ _).setCell ⟨w.heap.size, 2, none⟩ _).setCell ⟨w.heap.size, 3, none⟩ _).setCell ⟨w.heap.size, 4, none⟩ _).setCell ⟨w.heap.size, 5, none⟩ _).setCell ⟨w.heap.size, 6, none⟩ _).setCell ⟨w.heap.size, 7, none⟩ _).setCell ⟨w.heap.size, 8, none⟩ _ = V
  have hV9 : V = putRow W12 w.heap.size 0 [.int .u8 z1, .int .u16 (wat zs 4), .bool (decide (16384 ≤ wat zs 6)), .int .u8 z8, .int .u8 z9, .int .u32 (wat4 zs 12), .int .u32 (wat4 zs 16), .slice a9 (k - 20) cap9, .slice a11 (n - k) cap11] := hV.symm
  have hb13 : But (fun b => b = w.heap.size) W12 V := by rw [hV9]; exact putRow_but (E := fun b => b = w.heap.size) (n := w.heap.size) rfl _ _ _ _ (But.refl _ _)
  have p13 := putRow_all [.int .u8 z1, .int .u16 (wat zs 4), .bool (decide (16384 ≤ wat zs 6)), .int .u8 z8, .int .u8 z9, .int .u32 (wat4 zs 12), .int .u32 (wat4 zs 16), .slice a9 (k - 20) cap9, .slice a11 (n - k) cap11] hcur (by simpa using hsz)
  rw [← hV9] at p13
  have hd : decide (16384 ≤ wat zs 6 % 32768) = decide (16384 ≤ wat zs 6) := by rw [Int.emod_eq_of_lt (by omega) (by omega)]
  have hpk : pkt zs (.slice a9 (k - 20) cap9) (.slice a11 (n - k) cap11) = .agg (List.toArray [.int .u8 z1, .int .u16 (wat zs 4), .bool (decide (16384 ≤ wat zs 6)), .int .u8 z8, .int .u8 z9, .int .u32 (wat4 zs 12), .int .u32 (wat4 zs 16), .slice a9 (k - 20) cap9, .slice a11 (n - k) cap11]) := by unfold pkt; rw [G1.out, G8.out, G9.out, hd]
  refine bodyPost_ret (v := .tuple #[pkt zs (.slice a9 (k - 20) cap9) (.slice a11 (n - k) cap11), .int .i64 0]) (by rw [hpk]; exact res_rread _ w.heap.size 0 _ _ _ _ _ _ _ _ _ V rfl rfl p13) rfl ⟨hw12.trans (hb13.below hw12.size (fun j h e => by omega)), .inr ⟨HR.out, _, _, rfl, ?_, ?_⟩⟩
  ·rw [HK.out, Int.toNat_natCast]
   exact (hO13.but hb13 (fun b h e => by omega)).mono (by omega)
  ·rw [HK.out, HN.out, Int.toNat_natCast, Int.toNat_natCast]
   exact (hO12.but hb13 (fun b h e => by omega)).mono (by omega)

 ·by_cases h6 : (zs.length : Int) < wat zs 2
  ·go_wp2_with fail
   refine (rgood_any _ (zs.take k) (hB.take _) (by simp; omega) w2 (((hI.take k (by omega)).below (hb1.trans (hl2.mono (by omega)))).mono (by omega))).mono ?_
   rintro e w3 ⟨rfl, hl3⟩
   have hL3 : Later _ w3 := hl2.trans hl3
   have z3 := hL3.size
   cases hg : (Mt.cks (zs.take k) == 0)
   ·have hc5 : chk zs = 5 := by unfold chk; rw [HK.out, Int.toNat_natCast, if_pos (by simpa using hg)]
    have HR : Hid (rde true zs = 5) := by show _ = _; unfold rde; rw [hm0.out, if_neg (by simp), if_neg (by simp [ral]; omega), hc5]; rfl
    clear hc5
    have pk := ((hL3).block w.heap.size (by omega)).trans p1
    have Pk := block_cell pk
    have Fk := block_frozen pk
    go_wp2_with fail
    clear Pk Fk
    generalize hV : ((((((((w3.setCell ⟨w.heap.size, 0, none⟩ _).setCell ⟨w.heap.size, 1, none⟩ _).setCell ⟨w.heap.size, 2, none⟩ _).setCell ⟨w.heap.size, 3, none⟩ _).setCell ⟨w.heap.size, 4, none⟩ _).setCell ⟨w.heap.size, 5, none⟩ _).setCell ⟨w.heap.size, 6, none⟩ _).setCell ⟨w.heap.size, 7, none⟩ _).setCell ⟨w.heap.size, 8, none⟩ _ = V
    have hV9 : V = putRow w3 w.heap.size 0 zc := hV.symm
    have hb8 : But (fun b => b = w.heap.size) w3 V := by rw [hV9]; exact putRow_but (E := fun b => b = w.heap.size) (n := w.heap.size) rfl _ _ _ _ (But.refl _ _)
    have p8 := putRow_all zc pk rfl
    rw [← hV9] at p8
    exact rexit _ w.heap.size 5 _ rfl rfl p8 ⟨(hb1.trans ((hL3).mono (by omega))).trans (hb8.below (Nat.le_trans (by omega) (hL3).size) (fun j h e => by omega)), .inl (by rw [HR.out]; exact ⟨by omega, rfl⟩)⟩

   have hg0 : Mt.cks (zs.take k) = 0 := by simpa using hg
   have Hg := hide hg0
   clear hg hg0
   go_wp2_with fail
   refine (rget16_rd _ zs hB 6 (by omega) hl w3 (hI.below (hb1.trans (hL3.mono (by omega))))).mono ?_
   rintro e w4 ⟨rfl, hl4'⟩
   have hL4 : Later _ w4 := hL3.trans hl4'
   have z4 := hL4.size
   have hff := wat_bd hB 6
   by_cases h7 : wat zs 6 % 16384 ≠ 0
   ·have t7 : (wat zs 6 % 16384 != 0) = true := by simpa using h7
    have hc5 : chk zs = 7 := by unfold chk; rw [HK.out, Int.toNat_natCast, if_neg (by simp [Hg.out]), if_pos h7]
    have HR : Hid (rde true zs = 7) := by show _ = _; unfold rde; rw [hm0.out, if_neg (by simp), if_neg (by simp [ral]; omega), hc5]; rfl
    clear hc5
    have pk := ((hL4).block w.heap.size (by omega)).trans p1
    have Pk := block_cell pk
    have Fk := block_frozen pk
    go_wp2_with fail
    clear Pk Fk
    generalize hV : ((((((((w4.setCell ⟨w.heap.size, 0, none⟩ _).setCell ⟨w.heap.size, 1, none⟩ _).setCell ⟨w.heap.size, 2, none⟩ _).setCell ⟨w.heap.size, 3, none⟩ _).setCell ⟨w.heap.size, 4, none⟩ _).setCell ⟨w.heap.size, 5, none⟩ _).setCell ⟨w.heap.size, 6, none⟩ _).setCell ⟨w.heap.size, 7, none⟩ _).setCell ⟨w.heap.size, 8, none⟩ _ = V
    have hV9 : V = putRow w4 w.heap.size 0 zc := hV.symm
    have hb8 : But (fun b => b = w.heap.size) w4 V := by rw [hV9]; exact putRow_but (E := fun b => b = w.heap.size) (n := w.heap.size) rfl _ _ _ _ (But.refl _ _)
    have p8 := putRow_all zc pk rfl
    rw [← hV9] at p8
    exact rexit _ w.heap.size 7 _ rfl rfl p8 ⟨(hb1.trans ((hL4).mono (by omega))).trans (hb8.below (Nat.le_trans (by omega) (hL4).size) (fun j h e => by omega)), .inl (by rw [HR.out]; exact ⟨by omega, rfl⟩)⟩

   have t7 : (wat zs 6 % 16384 != 0) = false := by simpa using h7
   by_cases h8 : 32768 ≤ wat zs 6
   ·have hc5 : chk zs = 4 := by unfold chk; rw [HK.out, Int.toNat_natCast, if_neg (by simp [Hg.out]), if_neg h7, if_pos h8]
    have HR : Hid (rde true zs = 4) := by show _ = _; unfold rde; rw [hm0.out, if_neg (by simp), if_neg (by simp [ral]; omega), hc5]; rfl
    clear hc5
    have pk := ((hL4).block w.heap.size (by omega)).trans p1
    have Pk := block_cell pk
    have Fk := block_frozen pk
    go_wp2_with fail
    clear Pk Fk
    generalize hV : ((((((((w4.setCell ⟨w.heap.size, 0, none⟩ _).setCell ⟨w.heap.size, 1, none⟩ _).setCell ⟨w.heap.size, 2, none⟩ _).setCell ⟨w.heap.size, 3, none⟩ _).setCell ⟨w.heap.size, 4, none⟩ _).setCell ⟨w.heap.size, 5, none⟩ _).setCell ⟨w.heap.size, 6, none⟩ _).setCell ⟨w.heap.size, 7, none⟩ _).setCell ⟨w.heap.size, 8, none⟩ _ = V
    have hV9 : V = putRow w4 w.heap.size 0 zc := hV.symm
    have hb8 : But (fun b => b = w.heap.size) w4 V := by rw [hV9]; exact putRow_but (E := fun b => b = w.heap.size) (n := w.heap.size) rfl _ _ _ _ (But.refl _ _)
    have p8 := putRow_all zc pk rfl
    rw [← hV9] at p8
    exact rexit _ w.heap.size 4 _ rfl rfl p8 ⟨(hb1.trans ((hL4).mono (by omega))).trans (hb8.below (Nat.le_trans (by omega) (hL4).size) (fun j h e => by omega)), .inl (by rw [HR.out]; exact ⟨by omega, rfl⟩)⟩

   have hc0 : Hid (chk zs = 0) := by show _ = _; unfold chk; rw [HK.out, Int.toNat_natCast, if_neg (by simp [Hg.out]), if_neg h7, if_neg h8]

   by_cases h9 : (zs.length : Int) - (k : Int) < 8
   ·have HR : Hid (rde true zs = 3) := by show _ = _; unfold rde; rw [hm0.out, if_neg (by simp), if_neg (by simp [ral]; omega), hc0.out, if_neg (by simp), HK.out, if_pos ⟨rfl, by simp [ral]; omega⟩]
    have pk := ((hL4).block w.heap.size (by omega)).trans p1
    have Pk := block_cell pk
    have Fk := block_frozen pk
    go_wp2_with fail
    clear Pk Fk
    generalize hV : ((((((((w4.setCell ⟨w.heap.size, 0, none⟩ _).setCell ⟨w.heap.size, 1, none⟩ _).setCell ⟨w.heap.size, 2, none⟩ _).setCell ⟨w.heap.size, 3, none⟩ _).setCell ⟨w.heap.size, 4, none⟩ _).setCell ⟨w.heap.size, 5, none⟩ _).setCell ⟨w.heap.size, 6, none⟩ _).setCell ⟨w.heap.size, 7, none⟩ _).setCell ⟨w.heap.size, 8, none⟩ _ = V
    have hV9 : V = putRow w4 w.heap.size 0 zc := hV.symm
    have hb8 : But (fun b => b = w.heap.size) w4 V := by rw [hV9]; exact putRow_but (E := fun b => b = w.heap.size) (n := w.heap.size) rfl _ _ _ _ (But.refl _ _)
    have p8 := putRow_all zc pk rfl
    rw [← hV9] at p8
    exact rexit _ w.heap.size 3 _ rfl rfl p8 ⟨(hb1.trans ((hL4).mono (by omega))).trans (hb8.below (Nat.le_trans (by omega) (hL4).size) (fun j h e => by omega)), .inl (by rw [HR.out]; exact ⟨by omega, rfl⟩)⟩

   have HR : Hid (rde true zs = 0) := by show _ = _; unfold rde; rw [hm0.out, if_neg (by simp), if_neg (by simp [ral]; omega), hc0.out, if_neg (by simp), HK.out, if_neg (by simp [ral]; omega)]

   go_wp2_with fail
   have hkn : 20 ≤ k ∧ k ≤ zs.length ∧ zs.length ≤ zs.length := by omega
   have HN : Hid (ral true zs = (zs.length : Int)) := by show _ = _; simp [ral]; omega

   have d1 := hc 1 (by omega)
   have d8 := hc 8 (by omega)
   have d9 := hc 9 (by omega)
   have hbw4 := hb1.trans (hL4.mono (by omega))
   generalize gz1 : zs[1]?.getD 0 = z1 at *
   generalize gz8 : zs[8]?.getD 0 = z8 at *
   generalize gz9 : zs[9]?.getD 0 = z9 at *
   have G1 := hide gz1
   have G8 := hide gz8
   have G9 := hide gz9
   clear gz1 gz8 gz9
   have i1 : (1 : Int) < zs.length := by omega
   have i8 : (8 : Int) < zs.length := by omega
   have i9 : (9 : Int) < zs.length := by omega
   refine anyR_begin (R := KI w4.heap.size 26 9 (List.toArray [.int .u8 z1, .int .u16 (wat zs 4), .bool (decide (16384 ≤ wat zs 6)), .int .u8 z8, .int .u8 z9, .int .u32 (wat4 zs 12), .int .u32 (wat4 zs 16), .slice none 0 0, .slice none 0 0])) (KI.pre _ _ _ _) (fun w => KI.of (Later.drew w)) 20 rfl (by kernel_rfl) (fun W5 hW5 => ?_)
   have hbel : ∀ w1, KI w4.heap.size 26 9 (List.toArray [.int .u8 z1, .int .u16 (wat zs 4), .bool (decide (16384 ≤ wat zs 6)), .int .u8 z8, .int .u8 z9, .int .u32 (wat4 zs 12), .int .u32 (wat4 zs 16), .slice none 0 0, .slice none 0 0]) W5 w1 → Below w.heap.size w w1 := fun w1 h => hbw4.trans (((hW5.trans h).1.below (Nat.le_refl _) (fun k hk e => by omega)).mono (by omega))
   have hr1 : ∀ w1, KI w4.heap.size 26 9 (List.toArray [.int .u8 z1, .int .u16 (wat zs 4), .bool (decide (16384 ≤ wat zs 6)), .int .u8 z8, .int .u8 z9, .int .u32 (wat4 zs 12), .int .u32 (wat4 zs 16), .slice none 0 0, .slice none 0 0]) W5 w1 → Rd w.heap.size w1 (.slice (some ⟨b, off, none⟩) zs.length cap) zs := fun w1 h => hI.below (hbel w1 h)
   have e1 : ∀ w1, KI w4.heap.size 26 9 (List.toArray [.int .u8 z1, .int .u16 (wat zs 4), .bool (decide (16384 ≤ wat zs 6)), .int .u8 z8, .int .u8 z9, .int .u32 (wat4 zs 12), .int .u32 (wat4 zs 16), .slice none 0 0, .slice none 0 0]) W5 w1 → w1.cell? ⟨b, off + 1, none⟩ = some (.int .u8 z1) := fun w1 h => ((hbel w1 h).cell (p := ⟨b, off + 1, none⟩) hb).trans d1
   have e8 : ∀ w1, KI w4.heap.size 26 9 (List.toArray [.int .u8 z1, .int .u16 (wat zs 4), .bool (decide (16384 ≤ wat zs 6)), .int .u8 z8, .int .u8 z9, .int .u32 (wat4 zs 12), .int .u32 (wat4 zs 16), .slice none 0 0, .slice none 0 0]) W5 w1 → w1.cell? ⟨b, off + 8, none⟩ = some (.int .u8 z8) := fun w1 h => ((hbel w1 h).cell (p := ⟨b, off + 8, none⟩) hb).trans d8
   have e9 : ∀ w1, KI w4.heap.size 26 9 (List.toArray [.int .u8 z1, .int .u16 (wat zs 4), .bool (decide (16384 ≤ wat zs 6)), .int .u8 z8, .int .u8 z9, .int .u32 (wat4 zs 12), .int .u32 (wat4 zs 16), .slice none 0 0, .slice none 0 0]) W5 w1 → w1.cell? ⟨b, off + 9, none⟩ = some (.int .u8 z9) := fun w1 h => ((hbel w1 h).cell (p := ⟨b, off + 9, none⟩) hb).trans d9
   clear d1 d8 d9
   refine rV (KI.pre _ _ _ _) 0 rfl rfl ?_; apply Exists.intro; refine ⟨fun w1 hw1 => ?_, ?_⟩; (· (go_simp; rfl)); simp only [Act.put, sA, sB, sC]
   refine rV (KI.pre _ _ _ _) 1 rfl rfl ?_; apply Exists.intro; refine ⟨fun w1 hw1 => ?_, ?_⟩; (· (go_simp; rfl)); simp only [Act.put, sA, sB, sC]
   refine rV (KI.pre _ _ _ _) 2 rfl rfl ?_; apply Exists.intro; refine ⟨fun w1 hw1 => ?_, ?_⟩; (· (go_simp; rfl)); simp only [Act.put, sA, sB, sC]
   refine rV (KI.pre _ _ _ _) 3 rfl rfl ?_; apply Exists.intro; refine ⟨fun w1 hw1 => ?_, ?_⟩; (· (go_simp; rfl)); simp only [Act.put, sA, sB, sC]
   refine anyR_take (KI.pre _ _ _ _) 4 (.int .u16 (wat zs 4)) rfl (by kernel_rfl) (by kernel_rfl) (by kernel_rfl) (fun _ _ _ h => h) rfl (fun w1 hw1 => goes_call 62 #[.slice (some ⟨b, off, none⟩) zs.length cap, .int .i64 4] (by go_simp) ?_) ?_
   ·exact (rget16_rd _ zs hB 4 (by omega) hl w1 (hr1 w1 hw1)).mono fun e w' ⟨he, hw⟩ => ⟨he, KI.of hw⟩
   simp only [Act.put, sA, sB, sC]
   refine rV (KI.pre _ _ _ _) 5 rfl rfl ?_; apply Exists.intro; refine ⟨fun w1 hw1 => ?_, ?_⟩; (· (go_simp; rfl)); simp only [Act.put, sA, sB, sC]
   refine rV (KI.pre _ _ _ _) 6 rfl rfl ?_; apply Exists.intro; refine ⟨fun w1 hw1 => ?_, ?_⟩; (· (go_simp; rfl)); simp only [Act.put, sA, sB, sC]
   refine rV (KI.pre _ _ _ _) 7 rfl rfl ?_; apply Exists.intro; refine ⟨fun w1 hw1 => ?_, ?_⟩; (· (go_simp; rfl)); simp only [Act.put, sA, sB, sC]
   refine rV (KI.pre _ _ _ _) 8 rfl rfl ?_; apply Exists.intro; refine ⟨fun w1 hw1 => ?_, ?_⟩; (· (go_simp; rfl)); simp only [Act.put, sA, sB, sC]
   refine rV (KI.pre _ _ _ _) 9 rfl rfl ?_; apply Exists.intro; refine ⟨fun w1 hw1 => ?_, ?_⟩; (· (go_simp; rfl)); simp only [Act.put, sA, sB, sC]
   refine rV (KI.pre _ _ _ _) 10 rfl rfl ?_; apply Exists.intro; refine ⟨fun w1 hw1 => ?_, ?_⟩; (· (go_simp; rfl)); simp only [Act.put, sA, sB, sC]
   refine rV (KI.pre _ _ _ _) 11 rfl rfl ?_; apply Exists.intro; refine ⟨fun w1 hw1 => ?_, ?_⟩; (· (go_simp; rfl)); simp only [Act.put, sA, sB, sC]
   refine rV (KI.pre _ _ _ _) 12 rfl rfl ?_; apply Exists.intro; refine ⟨fun w1 hw1 => ?_, ?_⟩; (· (go_simp; rfl)); simp only [Act.put, sA, sB, sC]
   refine rV (KI.pre _ _ _ _) 13 rfl rfl ?_; apply Exists.intro; refine ⟨fun w1 hw1 => ?_, ?_⟩; (· (go_simp; rfl)); simp only [Act.put, sA, sB, sC]
   refine anyR_take (KI.pre _ _ _ _) 14 (.int .u32 (wat4 zs 12)) rfl (by kernel_rfl) (by kernel_rfl) (by kernel_rfl) (fun _ _ _ h => h) rfl (fun w1 hw1 => goes_call 36 #[.slice (some ⟨b, off, none⟩) zs.length cap, .int .i64 12] (by go_simp) ?_) ?_
   ·exact (rget32_rd _ zs hB 12 (by omega) hl w1 (hr1 w1 hw1)).mono fun e w' ⟨he, hw⟩ => ⟨he, KI.of hw⟩
   simp only [Act.put, sA, sB, sC]
   refine rV (KI.pre _ _ _ _) 15 rfl rfl ?_; apply Exists.intro; refine ⟨fun w1 hw1 => ?_, ?_⟩; (· (go_simp; rfl)); simp only [Act.put, sA, sB, sC]
   refine anyR_take (KI.pre _ _ _ _) 16 (.int .u32 (wat4 zs 16)) rfl (by kernel_rfl) (by kernel_rfl) (by kernel_rfl) (fun _ _ _ h => h) rfl (fun w1 hw1 => goes_call 36 #[.slice (some ⟨b, off, none⟩) zs.length cap, .int .i64 16] (by go_simp) ?_) ?_
   ·exact (rget32_rd _ zs hB 16 (by omega) hl w1 (hr1 w1 hw1)).mono fun e w' ⟨he, hw⟩ => ⟨he, KI.of hw⟩
   simp only [Act.put, sA, sB, sC]
   refine rV (KI.pre _ _ _ _) 17 rfl rfl ?_; apply Exists.intro; refine ⟨fun w1 hw1 => ?_, ?_⟩; (· (go_simp; rfl)); simp only [Act.put, sA, sB, sC]

   refine anyR_one 18 rfl (by kernel_rfl) rfl (fun W6 hW6 => ?_)
   have hs6 : w4.heap.size ≤ W6.heap.size := (hW5.trans hW6).1.size
   unfold Oper.wp
   go_simp
   refine ⟨KI.of ((Below.refl _ _).alloc (Nat.le_refl _) _), ?_⟩
   refine anyR_one 19 rfl (by kernel_rfl) rfl (fun W7 hW7 => ?_)
   have hwr : Wr W6.heap.size 9 26 W7 := hW7.2.1 _ ⟨_, heap_alloc_new W6 _, rfl⟩
   have hst := KI.store (n₁ := w4.heap.size) [.int .u8 z1, .int .u16 (wat zs 4), .bool (decide (16384 ≤ wat zs 6)), .int .u8 z8, .int .u8 z9, .int .u32 (wat4 zs 12), .int .u32 (wat4 zs 16), .slice none 0 0, .slice none 0 0] hs6 hwr rfl
   obtain ⟨cur, hcur, hsz⟩ := hwr
   have k7 := block_cell hcur
   have f7 := block_frozen hcur
   have HS := hide hst
   clear hst
   unfold Oper.wp
   go_simp
   generalize hV : ((((((((W7.setCell ⟨W6.heap.size, 0, none⟩ _).setCell ⟨W6.heap.size, 1, none⟩ _).setCell ⟨W6.heap.size, 2, none⟩ _).setCell ⟨W6.heap.size, 3, none⟩ _).setCell ⟨W6.heap.size, 4, none⟩ _).setCell ⟨W6.heap.size, 5, none⟩ _).setCell ⟨W6.heap.size, 6, none⟩ _).setCell ⟨W6.heap.size, 7, none⟩ _).setCell ⟨W6.heap.size, 8, none⟩ _ = V
   have hV9 : V = putRow W7 W6.heap.size 0 [.int .u8 z1, .int .u16 (wat zs 4), .bool (decide (16384 ≤ wat zs 6)), .int .u8 z8, .int .u8 z9, .int .u32 (wat4 zs 12), .int .u32 (wat4 zs 16), .slice none 0 0, .slice none 0 0] := hV.symm
   have hst := HS.out
   rw [← hV9] at hst
   clear hV hV9 HS k7 f7
   refine ⟨hst.1, anyR_done (by kernel_rfl) (fun W8 hW8 => ?_)⟩
   have p8 := hW8.2.2 _ hst.2
   have hwW8 : Below w.heap.size w W8 := hbel W8 (((hW6.trans (KI.of ((Below.refl _ _).alloc (Nat.le_refl _) _))).trans hW7).trans (hst.1.trans hW8))
   have hq8 : w.heap.size < W6.heap.size := by omega
   have pw8 : Wr w.heap.size 9 26 W8 := hW8.2.1 _ (hst.1.2.1 _ (hW7.2.1 _ ((KI.of ((Below.refl W6.heap.size W6).alloc (Nat.le_refl _) _) : KI w4.heap.size 26 9 (List.toArray [.int .u8 z1, .int .u16 (wat zs 4), .bool (decide (16384 ≤ wat zs 6)), .int .u8 z8, .int .u8 z9, .int .u32 (wat4 zs 12), .int .u32 (wat4 zs 16), .slice none 0 0, .slice none 0 0]) W6 _).2.1 _ (hW6.2.1 _ (hW5.2.1 _ ⟨_, (hL4.block w.heap.size (by omega)).trans p1, rfl⟩)))))
   generalize W6.heap.size = pb at *
   clear hbel hr1 e1 e8 e9 hst hW7 hW6 hs6 hcur hsz hW8
   have hs8 := (bl9 p8)
   have P8 := block_cell p8
   go_wp2_with fail
   have hR8 := (((hI.below hwW8).take k (by omega)).cutAt 20 (by omega)).drew 1
   obtain ⟨v9, W9, hrun9, hown9, hgr9⟩ := run_app (P := Tryz.prog) W8.drew 24 24 5 (pb + 1) i0 Tryz.underlying24 hi hz0 hz1 hz2 (.slice none 0 0) [] (World.ownsRow_nil _ _ _ _) w.heap.size _ ((zs.take k).drop 20) hR8 (by simp; omega) hs8
   have hl9 : Later W8 W9 := Later.trans (Later.drew W8) ((Below.refl _ W8.drew).grown hgr9 (Nat.le_refl _) (fun _ e => by cases e))
   have hO9 := Ow.of_row hown9
   rw [List.nil_append] at hO9
   obtain ⟨a9, cap9, rfl, hq9, hm9⟩ := hO9.slice
   clear hown9 hgr9 hR8
   have p9 := (hl9.block pb hs8).trans p8
   have P9 := block_cell p9
   have F9 := block_frozen p9
   have hLo : Hid (((zs.take k).drop 20).length = k - 20) := by show _ = _; simp; omega
   rw [hLo.out] at hrun9 hO9
   have i20 : (20 : Int) ≤ k := by omega
   go_region_law (refine step_run rfl (.tmp 92) (.tmp 95) 24 rfl _ _ rfl rfl _ W9 hrun9 ?_)
   clear hrun9 P8 P9 F9
   generalize (if cap = 20 then some (⟨b, off, none⟩ : Addr) else some ⟨b, off + 20, none⟩) = ad20 at *
   have p10 : (W9.setCell ⟨pb, 7, none⟩ (.slice a9 (k - 20) cap9)).heap[pb]? = some (.cells (List.toArray [.int .u8 z1, .int .u16 (wat zs 4), .bool (decide (16384 ≤ wat zs 6)), .int .u8 z8, .int .u8 z9, .int .u32 (wat4 zs 12), .int .u32 (wat4 zs 16), .slice a9 (k - 20) cap9, .slice none 0 0]) 26 (0, 0)) := heap_set1 p9 7 (.slice a9 (k - 20) cap9)
   have hE9 : But (fun b => b = pb) W9 (W9.setCell ⟨pb, 7, none⟩ (.slice a9 (k - 20) cap9)) := (But.refl (fun b => b = pb) W9).setCell (p := ⟨pb, 7, none⟩) (E := fun b => b = pb) rfl _
   have hO10 := hO9.but hE9 (fun b h e => by omega)
   have hw10 : Below w.heap.size w _ := (hwW8.trans (hl9.mono hwW8.size)).setCell (p := ⟨pb, 7, none⟩) (Nat.le_of_lt hq8) (.slice a9 (k - 20) cap9)
   have pw10 : Wr w.heap.size 9 26 (W9.setCell ⟨pb, 7, none⟩ (.slice a9 (k - 20) cap9)) := by
    obtain ⟨c, h1, h2⟩ := pw8.later hl9
    exact ⟨c, (hE9.block _ (bl9 h1) (by omega)).trans h1, h2⟩
   generalize W9.setCell ⟨pb, 7, none⟩ (.slice a9 (k - 20) cap9) = W10 at *
   clear hO9 p9 hE9 hl9 hwW8 pw8
   have hs10 := (bl9 p10)
   have P10 := block_cell p10
   go_wp2_with fail
   have hR10 := (((hI.below hw10).take zs.length (by omega)).cutAt k (by omega)).drew 1
   obtain ⟨v11, W11, hrun11, hown11, hgr11⟩ := run_app (P := Tryz.prog) W10.drew 24 24 5 (pb + 1) i0 Tryz.underlying24 hi hz0 hz1 hz2 (.slice none 0 0) [] (World.ownsRow_nil _ _ _ _) w.heap.size _ ((zs.take zs.length).drop k) hR10 (by simp; omega) hs10
   have hl11 : Later W10 W11 := Later.trans (Later.drew W10) ((Below.refl _ W10.drew).grown hgr11 (Nat.le_refl _) (fun _ e => by cases e))
   have hO11 := Ow.of_row hown11
   rw [List.nil_append] at hO11
   obtain ⟨a11, cap11, rfl, hq11, hm11⟩ := hO11.slice
   clear hown11 hgr11 hR10
   have p11 := (hl11.block pb hs10).trans p10
   have P11 := block_cell p11
   have F11 := block_frozen p11
   have hLd : Hid (((zs.take zs.length).drop k).length = zs.length - k) := by show _ = _; simp; try omega
   rw [hLd.out] at hrun11 hO11
   have ikn : (k : Int) ≤ zs.length := by omega
   have inc : zs.length ≤ cap := by omega
   have inc2 : (zs.length : Int) ≤ cap := by omega
   go_region_law (refine step_run rfl (.tmp 99) (.tmp 103) 24 rfl _ _ rfl rfl _ W11 hrun11 ?_)
   clear hrun11 P10 P11 F11
   generalize (if cap = k then some (⟨b, off, none⟩ : Addr) else some ⟨b, off + k, none⟩) = adk at *
   have p12 : (W11.setCell ⟨pb, 8, none⟩ (.slice a11 (zs.length - k) cap11)).heap[pb]? = some (.cells (List.toArray [.int .u8 z1, .int .u16 (wat zs 4), .bool (decide (16384 ≤ wat zs 6)), .int .u8 z8, .int .u8 z9, .int .u32 (wat4 zs 12), .int .u32 (wat4 zs 16), .slice a9 (k - 20) cap9, .slice a11 (zs.length - k) cap11]) 26 (0, 0)) := heap_set1 p11 8 (.slice a11 (zs.length - k) cap11)
   have hE11 : But (fun b => b = pb) W11 (W11.setCell ⟨pb, 8, none⟩ (.slice a11 (zs.length - k) cap11)) := (But.refl (fun b => b = pb) W11).setCell (p := ⟨pb, 8, none⟩) (E := fun b => b = pb) rfl _
   have hO12 := hO11.but hE11 (fun b h e => by omega)
   have hO13 := (hO10.below hl11 (Nat.le_refl _)).but hE11 (fun b h e => by omega)
   have hw12 : Below w.heap.size w _ := (hw10.trans (hl11.mono hw10.size)).setCell (p := ⟨pb, 8, none⟩) (Nat.le_of_lt hq8) (.slice a11 (zs.length - k) cap11)
   have pw12 : Wr w.heap.size 9 26 (W11.setCell ⟨pb, 8, none⟩ (.slice a11 (zs.length - k) cap11)) := by
    obtain ⟨c, h1, h2⟩ := pw10.later hl11
    exact ⟨c, (hE11.block _ (bl9 h1) (by omega)).trans h1, h2⟩
   generalize W11.setCell ⟨pb, 8, none⟩ (.slice a11 (zs.length - k) cap11) = W12 at *
   clear hO11 p11 hE11 hl11 hw10 pw10 hO10
   have P12 := block_cell p12
   obtain ⟨cur, hcur, hsz⟩ := pw12
   have C12 := block_cell hcur
   have F12 := block_frozen hcur
   go_wp2_with fail
   generalize hV : ((((((((W12.setCell ⟨w.heap.size, 0, none⟩ _).setCell ⟨w.heap.size, 1, none⟩ _).setCell ⟨w.heap.size, 2, none⟩ _).setCell ⟨w.heap.size, 3, none⟩ _).setCell ⟨w.heap.size, 4, none⟩ _).setCell ⟨w.heap.size, 5, none⟩ _).setCell ⟨w.heap.size, 6, none⟩ _).setCell ⟨w.heap.size, 7, none⟩ _).setCell ⟨w.heap.size, 8, none⟩ _ = V
   have hV9 : V = putRow W12 w.heap.size 0 [.int .u8 z1, .int .u16 (wat zs 4), .bool (decide (16384 ≤ wat zs 6)), .int .u8 z8, .int .u8 z9, .int .u32 (wat4 zs 12), .int .u32 (wat4 zs 16), .slice a9 (k - 20) cap9, .slice a11 (zs.length - k) cap11] := hV.symm
   have hb13 : But (fun b => b = w.heap.size) W12 V := by rw [hV9]; exact putRow_but (E := fun b => b = w.heap.size) (n := w.heap.size) rfl _ _ _ _ (But.refl _ _)
   have p13 := putRow_all [.int .u8 z1, .int .u16 (wat zs 4), .bool (decide (16384 ≤ wat zs 6)), .int .u8 z8, .int .u8 z9, .int .u32 (wat4 zs 12), .int .u32 (wat4 zs 16), .slice a9 (k - 20) cap9, .slice a11 (zs.length - k) cap11] hcur (by simpa using hsz)
   rw [← hV9] at p13
   have hd : decide (16384 ≤ wat zs 6 % 32768) = decide (16384 ≤ wat zs 6) := by rw [Int.emod_eq_of_lt (by omega) (by omega)]
   have hpk : pkt zs (.slice a9 (k - 20) cap9) (.slice a11 (zs.length - k) cap11) = .agg (List.toArray [.int .u8 z1, .int .u16 (wat zs 4), .bool (decide (16384 ≤ wat zs 6)), .int .u8 z8, .int .u8 z9, .int .u32 (wat4 zs 12), .int .u32 (wat4 zs 16), .slice a9 (k - 20) cap9, .slice a11 (zs.length - k) cap11]) := by unfold pkt; rw [G1.out, G8.out, G9.out, hd]
   refine bodyPost_ret (v := .tuple #[pkt zs (.slice a9 (k - 20) cap9) (.slice a11 (zs.length - k) cap11), .int .i64 0]) (by rw [hpk]; exact res_rread _ w.heap.size 0 _ _ _ _ _ _ _ _ _ V rfl rfl p13) rfl ⟨hw12.trans (hb13.below hw12.size (fun j h e => by omega)), .inr ⟨HR.out, _, _, rfl, ?_, ?_⟩⟩
   ·rw [HK.out, Int.toNat_natCast]
    exact (hO13.but hb13 (fun b h e => by omega)).mono (by omega)
   ·rw [HK.out, HN.out, Int.toNat_natCast, Int.toNat_natCast]
    exact (hO12.but hb13 (fun b h e => by omega)).mono (by omega)

  ·go_wp2_with fail
   refine (rgood_any _ (zs.take k) (hB.take _) (by simp; omega) w2 (((hI.take k (by omega)).below (hb1.trans (hl2.mono (by omega)))).mono (by omega))).mono ?_
   rintro e w3 ⟨rfl, hl3⟩
   have hL3 : Later _ w3 := hl2.trans hl3
   have z3 := hL3.size
   cases hg : (Mt.cks (zs.take k) == 0)
   ·have hc5 : chk zs = 5 := by unfold chk; rw [HK.out, Int.toNat_natCast, if_pos (by simpa using hg)]
    have HR : Hid (rde true zs = 5) := by show _ = _; unfold rde; rw [hm0.out, if_neg (by simp), if_neg (by simp [ral]; omega), hc5]; rfl
    clear hc5
    have pk := ((hL3).block w.heap.size (by omega)).trans p1
    have Pk := block_cell pk
    have Fk := block_frozen pk
    go_wp2_with fail
    clear Pk Fk
    generalize hV : ((((((((w3.setCell ⟨w.heap.size, 0, none⟩ _).setCell ⟨w.heap.size, 1, none⟩ _).setCell ⟨w.heap.size, 2, none⟩ _).setCell ⟨w.heap.size, 3, none⟩ _).setCell ⟨w.heap.size, 4, none⟩ _).setCell ⟨w.heap.size, 5, none⟩ _).setCell ⟨w.heap.size, 6, none⟩ _).setCell ⟨w.heap.size, 7, none⟩ _).setCell ⟨w.heap.size, 8, none⟩ _ = V
    have hV9 : V = putRow w3 w.heap.size 0 zc := hV.symm
    have hb8 : But (fun b => b = w.heap.size) w3 V := by rw [hV9]; exact putRow_but (E := fun b => b = w.heap.size) (n := w.heap.size) rfl _ _ _ _ (But.refl _ _)
    have p8 := putRow_all zc pk rfl
    rw [← hV9] at p8
    exact rexit _ w.heap.size 5 _ rfl rfl p8 ⟨(hb1.trans ((hL3).mono (by omega))).trans (hb8.below (Nat.le_trans (by omega) (hL3).size) (fun j h e => by omega)), .inl (by rw [HR.out]; exact ⟨by omega, rfl⟩)⟩

   have hg0 : Mt.cks (zs.take k) = 0 := by simpa using hg
   have Hg := hide hg0
   clear hg hg0
   go_wp2_with fail
   refine (rget16_rd _ zs hB 6 (by omega) hl w3 (hI.below (hb1.trans (hL3.mono (by omega))))).mono ?_
   rintro e w4 ⟨rfl, hl4'⟩
   have hL4 : Later _ w4 := hL3.trans hl4'
   have z4 := hL4.size
   have hff := wat_bd hB 6
   by_cases h7 : wat zs 6 % 16384 ≠ 0
   ·have t7 : (wat zs 6 % 16384 != 0) = true := by simpa using h7
    have hc5 : chk zs = 7 := by unfold chk; rw [HK.out, Int.toNat_natCast, if_neg (by simp [Hg.out]), if_pos h7]
    have HR : Hid (rde true zs = 7) := by show _ = _; unfold rde; rw [hm0.out, if_neg (by simp), if_neg (by simp [ral]; omega), hc5]; rfl
    clear hc5
    have pk := ((hL4).block w.heap.size (by omega)).trans p1
    have Pk := block_cell pk
    have Fk := block_frozen pk
    go_wp2_with fail
    clear Pk Fk
    generalize hV : ((((((((w4.setCell ⟨w.heap.size, 0, none⟩ _).setCell ⟨w.heap.size, 1, none⟩ _).setCell ⟨w.heap.size, 2, none⟩ _).setCell ⟨w.heap.size, 3, none⟩ _).setCell ⟨w.heap.size, 4, none⟩ _).setCell ⟨w.heap.size, 5, none⟩ _).setCell ⟨w.heap.size, 6, none⟩ _).setCell ⟨w.heap.size, 7, none⟩ _).setCell ⟨w.heap.size, 8, none⟩ _ = V
    have hV9 : V = putRow w4 w.heap.size 0 zc := hV.symm
    have hb8 : But (fun b => b = w.heap.size) w4 V := by rw [hV9]; exact putRow_but (E := fun b => b = w.heap.size) (n := w.heap.size) rfl _ _ _ _ (But.refl _ _)
    have p8 := putRow_all zc pk rfl
    rw [← hV9] at p8
    exact rexit _ w.heap.size 7 _ rfl rfl p8 ⟨(hb1.trans ((hL4).mono (by omega))).trans (hb8.below (Nat.le_trans (by omega) (hL4).size) (fun j h e => by omega)), .inl (by rw [HR.out]; exact ⟨by omega, rfl⟩)⟩

   have t7 : (wat zs 6 % 16384 != 0) = false := by simpa using h7
   by_cases h8 : 32768 ≤ wat zs 6
   ·have hc5 : chk zs = 4 := by unfold chk; rw [HK.out, Int.toNat_natCast, if_neg (by simp [Hg.out]), if_neg h7, if_pos h8]
    have HR : Hid (rde true zs = 4) := by show _ = _; unfold rde; rw [hm0.out, if_neg (by simp), if_neg (by simp [ral]; omega), hc5]; rfl
    clear hc5
    have pk := ((hL4).block w.heap.size (by omega)).trans p1
    have Pk := block_cell pk
    have Fk := block_frozen pk
    go_wp2_with fail
    clear Pk Fk
    generalize hV : ((((((((w4.setCell ⟨w.heap.size, 0, none⟩ _).setCell ⟨w.heap.size, 1, none⟩ _).setCell ⟨w.heap.size, 2, none⟩ _).setCell ⟨w.heap.size, 3, none⟩ _).setCell ⟨w.heap.size, 4, none⟩ _).setCell ⟨w.heap.size, 5, none⟩ _).setCell ⟨w.heap.size, 6, none⟩ _).setCell ⟨w.heap.size, 7, none⟩ _).setCell ⟨w.heap.size, 8, none⟩ _ = V
    have hV9 : V = putRow w4 w.heap.size 0 zc := hV.symm
    have hb8 : But (fun b => b = w.heap.size) w4 V := by rw [hV9]; exact putRow_but (E := fun b => b = w.heap.size) (n := w.heap.size) rfl _ _ _ _ (But.refl _ _)
    have p8 := putRow_all zc pk rfl
    rw [← hV9] at p8
    exact rexit _ w.heap.size 4 _ rfl rfl p8 ⟨(hb1.trans ((hL4).mono (by omega))).trans (hb8.below (Nat.le_trans (by omega) (hL4).size) (fun j h e => by omega)), .inl (by rw [HR.out]; exact ⟨by omega, rfl⟩)⟩

   have hc0 : Hid (chk zs = 0) := by show _ = _; unfold chk; rw [HK.out, Int.toNat_natCast, if_neg (by simp [Hg.out]), if_neg h7, if_neg h8]

   by_cases h9 : wat zs 2 - (k : Int) < 8
   ·have HR : Hid (rde true zs = 3) := by show _ = _; unfold rde; rw [hm0.out, if_neg (by simp), if_neg (by simp [ral]; omega), hc0.out, if_neg (by simp), HK.out, if_pos ⟨rfl, by simp [ral]; omega⟩]
    have pk := ((hL4).block w.heap.size (by omega)).trans p1
    have Pk := block_cell pk
    have Fk := block_frozen pk
    go_wp2_with fail
    clear Pk Fk
    generalize hV : ((((((((w4.setCell ⟨w.heap.size, 0, none⟩ _).setCell ⟨w.heap.size, 1, none⟩ _).setCell ⟨w.heap.size, 2, none⟩ _).setCell ⟨w.heap.size, 3, none⟩ _).setCell ⟨w.heap.size, 4, none⟩ _).setCell ⟨w.heap.size, 5, none⟩ _).setCell ⟨w.heap.size, 6, none⟩ _).setCell ⟨w.heap.size, 7, none⟩ _).setCell ⟨w.heap.size, 8, none⟩ _ = V
    have hV9 : V = putRow w4 w.heap.size 0 zc := hV.symm
    have hb8 : But (fun b => b = w.heap.size) w4 V := by rw [hV9]; exact putRow_but (E := fun b => b = w.heap.size) (n := w.heap.size) rfl _ _ _ _ (But.refl _ _)
    have p8 := putRow_all zc pk rfl
    rw [← hV9] at p8
    exact rexit _ w.heap.size 3 _ rfl rfl p8 ⟨(hb1.trans ((hL4).mono (by omega))).trans (hb8.below (Nat.le_trans (by omega) (hL4).size) (fun j h e => by omega)), .inl (by rw [HR.out]; exact ⟨by omega, rfl⟩)⟩

   have HR : Hid (rde true zs = 0) := by show _ = _; unfold rde; rw [hm0.out, if_neg (by simp), if_neg (by simp [ral]; omega), hc0.out, if_neg (by simp), HK.out, if_neg (by simp [ral]; omega)]

   go_wp2_with fail
   obtain ⟨n, hn⟩ := Int.eq_ofNat_of_zero_le (show 0 ≤ wat zs 2 by omega)
   have hkn : 20 ≤ k ∧ k ≤ n ∧ n ≤ zs.length := by omega
   have HN : Hid (ral true zs = n) := by show _ = _; simp [ral]; omega
   have Hn := hide hn
   rw [hn]
   clear hn

   have d1 := hc 1 (by omega)
   have d8 := hc 8 (by omega)
   have d9 := hc 9 (by omega)
   have hbw4 := hb1.trans (hL4.mono (by omega))
   generalize gz1 : zs[1]?.getD 0 = z1 at *
   generalize gz8 : zs[8]?.getD 0 = z8 at *
   generalize gz9 : zs[9]?.getD 0 = z9 at *
   have G1 := hide gz1
   have G8 := hide gz8
   have G9 := hide gz9
   clear gz1 gz8 gz9
   have i1 : (1 : Int) < zs.length := by omega
   have i8 : (8 : Int) < zs.length := by omega
   have i9 : (9 : Int) < zs.length := by omega
   refine anyR_begin (R := KI w4.heap.size 26 9 (List.toArray [.int .u8 z1, .int .u16 (wat zs 4), .bool (decide (16384 ≤ wat zs 6)), .int .u8 z8, .int .u8 z9, .int .u32 (wat4 zs 12), .int .u32 (wat4 zs 16), .slice none 0 0, .slice none 0 0])) (KI.pre _ _ _ _) (fun w => KI.of (Later.drew w)) 20 rfl (by kernel_rfl) (fun W5 hW5 => ?_)
   have hbel : ∀ w1, KI w4.heap.size 26 9 (List.toArray [.int .u8 z1, .int .u16 (wat zs 4), .bool (decide (16384 ≤ wat zs 6)), .int .u8 z8, .int .u8 z9, .int .u32 (wat4 zs 12), .int .u32 (wat4 zs 16), .slice none 0 0, .slice none 0 0]) W5 w1 → Below w.heap.size w w1 := fun w1 h => hbw4.trans (((hW5.trans h).1.below (Nat.le_refl _) (fun k hk e => by omega)).mono (by omega))
   have hr1 : ∀ w1, KI w4.heap.size 26 9 (List.toArray [.int .u8 z1, .int .u16 (wat zs 4), .bool (decide (16384 ≤ wat zs 6)), .int .u8 z8, .int .u8 z9, .int .u32 (wat4 zs 12), .int .u32 (wat4 zs 16), .slice none 0 0, .slice none 0 0]) W5 w1 → Rd w.heap.size w1 (.slice (some ⟨b, off, none⟩) zs.length cap) zs := fun w1 h => hI.below (hbel w1 h)
   have e1 : ∀ w1, KI w4.heap.size 26 9 (List.toArray [.int .u8 z1, .int .u16 (wat zs 4), .bool (decide (16384 ≤ wat zs 6)), .int .u8 z8, .int .u8 z9, .int .u32 (wat4 zs 12), .int .u32 (wat4 zs 16), .slice none 0 0, .slice none 0 0]) W5 w1 → w1.cell? ⟨b, off + 1, none⟩ = some (.int .u8 z1) := fun w1 h => ((hbel w1 h).cell (p := ⟨b, off + 1, none⟩) hb).trans d1
   have e8 : ∀ w1, KI w4.heap.size 26 9 (List.toArray [.int .u8 z1, .int .u16 (wat zs 4), .bool (decide (16384 ≤ wat zs 6)), .int .u8 z8, .int .u8 z9, .int .u32 (wat4 zs 12), .int .u32 (wat4 zs 16), .slice none 0 0, .slice none 0 0]) W5 w1 → w1.cell? ⟨b, off + 8, none⟩ = some (.int .u8 z8) := fun w1 h => ((hbel w1 h).cell (p := ⟨b, off + 8, none⟩) hb).trans d8
   have e9 : ∀ w1, KI w4.heap.size 26 9 (List.toArray [.int .u8 z1, .int .u16 (wat zs 4), .bool (decide (16384 ≤ wat zs 6)), .int .u8 z8, .int .u8 z9, .int .u32 (wat4 zs 12), .int .u32 (wat4 zs 16), .slice none 0 0, .slice none 0 0]) W5 w1 → w1.cell? ⟨b, off + 9, none⟩ = some (.int .u8 z9) := fun w1 h => ((hbel w1 h).cell (p := ⟨b, off + 9, none⟩) hb).trans d9
   clear d1 d8 d9
   refine rV (KI.pre _ _ _ _) 0 rfl rfl ?_; apply Exists.intro; refine ⟨fun w1 hw1 => ?_, ?_⟩; (· (go_simp; rfl)); simp only [Act.put, sA, sB, sC]
   refine rV (KI.pre _ _ _ _) 1 rfl rfl ?_; apply Exists.intro; refine ⟨fun w1 hw1 => ?_, ?_⟩; (· (go_simp; rfl)); simp only [Act.put, sA, sB, sC]
   refine rV (KI.pre _ _ _ _) 2 rfl rfl ?_; apply Exists.intro; refine ⟨fun w1 hw1 => ?_, ?_⟩; (· (go_simp; rfl)); simp only [Act.put, sA, sB, sC]
   refine rV (KI.pre _ _ _ _) 3 rfl rfl ?_; apply Exists.intro; refine ⟨fun w1 hw1 => ?_, ?_⟩; (· (go_simp; rfl)); simp only [Act.put, sA, sB, sC]
   refine anyR_take (KI.pre _ _ _ _) 4 (.int .u16 (wat zs 4)) rfl (by kernel_rfl) (by kernel_rfl) (by kernel_rfl) (fun _ _ _ h => h) rfl (fun w1 hw1 => goes_call 62 #[.slice (some ⟨b, off, none⟩) zs.length cap, .int .i64 4] (by go_simp) ?_) ?_
   ·exact (rget16_rd _ zs hB 4 (by omega) hl w1 (hr1 w1 hw1)).mono fun e w' ⟨he, hw⟩ => ⟨he, KI.of hw⟩
   simp only [Act.put, sA, sB, sC]
   refine rV (KI.pre _ _ _ _) 5 rfl rfl ?_; apply Exists.intro; refine ⟨fun w1 hw1 => ?_, ?_⟩; (· (go_simp; rfl)); simp only [Act.put, sA, sB, sC]
   refine rV (KI.pre _ _ _ _) 6 rfl rfl ?_; apply Exists.intro; refine ⟨fun w1 hw1 => ?_, ?_⟩; (· (go_simp; rfl)); simp only [Act.put, sA, sB, sC]
   refine rV (KI.pre _ _ _ _) 7 rfl rfl ?_; apply Exists.intro; refine ⟨fun w1 hw1 => ?_, ?_⟩; (· (go_simp; rfl)); simp only [Act.put, sA, sB, sC]
   refine rV (KI.pre _ _ _ _) 8 rfl rfl ?_; apply Exists.intro; refine ⟨fun w1 hw1 => ?_, ?_⟩; (· (go_simp; rfl)); simp only [Act.put, sA, sB, sC]
   refine rV (KI.pre _ _ _ _) 9 rfl rfl ?_; apply Exists.intro; refine ⟨fun w1 hw1 => ?_, ?_⟩; (· (go_simp; rfl)); simp only [Act.put, sA, sB, sC]
   refine rV (KI.pre _ _ _ _) 10 rfl rfl ?_; apply Exists.intro; refine ⟨fun w1 hw1 => ?_, ?_⟩; (· (go_simp; rfl)); simp only [Act.put, sA, sB, sC]
   refine rV (KI.pre _ _ _ _) 11 rfl rfl ?_; apply Exists.intro; refine ⟨fun w1 hw1 => ?_, ?_⟩; (· (go_simp; rfl)); simp only [Act.put, sA, sB, sC]
   refine rV (KI.pre _ _ _ _) 12 rfl rfl ?_; apply Exists.intro; refine ⟨fun w1 hw1 => ?_, ?_⟩; (· (go_simp; rfl)); simp only [Act.put, sA, sB, sC]
   refine rV (KI.pre _ _ _ _) 13 rfl rfl ?_; apply Exists.intro; refine ⟨fun w1 hw1 => ?_, ?_⟩; (· (go_simp; rfl)); simp only [Act.put, sA, sB, sC]
   refine anyR_take (KI.pre _ _ _ _) 14 (.int .u32 (wat4 zs 12)) rfl (by kernel_rfl) (by kernel_rfl) (by kernel_rfl) (fun _ _ _ h => h) rfl (fun w1 hw1 => goes_call 36 #[.slice (some ⟨b, off, none⟩) zs.length cap, .int .i64 12] (by go_simp) ?_) ?_
   ·exact (rget32_rd _ zs hB 12 (by omega) hl w1 (hr1 w1 hw1)).mono fun e w' ⟨he, hw⟩ => ⟨he, KI.of hw⟩
   simp only [Act.put, sA, sB, sC]
   refine rV (KI.pre _ _ _ _) 15 rfl rfl ?_; apply Exists.intro; refine ⟨fun w1 hw1 => ?_, ?_⟩; (· (go_simp; rfl)); simp only [Act.put, sA, sB, sC]
   refine anyR_take (KI.pre _ _ _ _) 16 (.int .u32 (wat4 zs 16)) rfl (by kernel_rfl) (by kernel_rfl) (by kernel_rfl) (fun _ _ _ h => h) rfl (fun w1 hw1 => goes_call 36 #[.slice (some ⟨b, off, none⟩) zs.length cap, .int .i64 16] (by go_simp) ?_) ?_
   ·exact (rget32_rd _ zs hB 16 (by omega) hl w1 (hr1 w1 hw1)).mono fun e w' ⟨he, hw⟩ => ⟨he, KI.of hw⟩
   simp only [Act.put, sA, sB, sC]
   refine rV (KI.pre _ _ _ _) 17 rfl rfl ?_; apply Exists.intro; refine ⟨fun w1 hw1 => ?_, ?_⟩; (· (go_simp; rfl)); simp only [Act.put, sA, sB, sC]

   refine anyR_one 18 rfl (by kernel_rfl) rfl (fun W6 hW6 => ?_)
   have hs6 : w4.heap.size ≤ W6.heap.size := (hW5.trans hW6).1.size
   unfold Oper.wp
   go_simp
   refine ⟨KI.of ((Below.refl _ _).alloc (Nat.le_refl _) _), ?_⟩
   refine anyR_one 19 rfl (by kernel_rfl) rfl (fun W7 hW7 => ?_)
   have hwr : Wr W6.heap.size 9 26 W7 := hW7.2.1 _ ⟨_, heap_alloc_new W6 _, rfl⟩
   have hst := KI.store (n₁ := w4.heap.size) [.int .u8 z1, .int .u16 (wat zs 4), .bool (decide (16384 ≤ wat zs 6)), .int .u8 z8, .int .u8 z9, .int .u32 (wat4 zs 12), .int .u32 (wat4 zs 16), .slice none 0 0, .slice none 0 0] hs6 hwr rfl
   obtain ⟨cur, hcur, hsz⟩ := hwr
   have k7 := block_cell hcur
   have f7 := block_frozen hcur
   have HS := hide hst
   clear hst
   unfold Oper.wp
   go_simp
   generalize hV : ((((((((W7.setCell ⟨W6.heap.size, 0, none⟩ _).setCell ⟨W6.heap.size, 1, none⟩ _).setCell ⟨W6.heap.size, 2, none⟩ _).setCell ⟨W6.heap.size, 3, none⟩ _).setCell ⟨W6.heap.size, 4, none⟩ _).setCell ⟨W6.heap.size, 5, none⟩ _).setCell ⟨W6.heap.size, 6, none⟩ _).setCell ⟨W6.heap.size, 7, none⟩ _).setCell ⟨W6.heap.size, 8, none⟩ _ = V
   have hV9 : V = putRow W7 W6.heap.size 0 [.int .u8 z1, .int .u16 (wat zs 4), .bool (decide (16384 ≤ wat zs 6)), .int .u8 z8, .int .u8 z9, .int .u32 (wat4 zs 12), .int .u32 (wat4 zs 16), .slice none 0 0, .slice none 0 0] := hV.symm
   have hst := HS.out
   rw [← hV9] at hst
   clear hV hV9 HS k7 f7
   refine ⟨hst.1, anyR_done (by kernel_rfl) (fun W8 hW8 => ?_)⟩
   have p8 := hW8.2.2 _ hst.2
   have hwW8 : Below w.heap.size w W8 := hbel W8 (((hW6.trans (KI.of ((Below.refl _ _).alloc (Nat.le_refl _) _))).trans hW7).trans (hst.1.trans hW8))
   have hq8 : w.heap.size < W6.heap.size := by omega
   have pw8 : Wr w.heap.size 9 26 W8 := hW8.2.1 _ (hst.1.2.1 _ (hW7.2.1 _ ((KI.of ((Below.refl W6.heap.size W6).alloc (Nat.le_refl _) _) : KI w4.heap.size 26 9 (List.toArray [.int .u8 z1, .int .u16 (wat zs 4), .bool (decide (16384 ≤ wat zs 6)), .int .u8 z8, .int .u8 z9, .int .u32 (wat4 zs 12), .int .u32 (wat4 zs 16), .slice none 0 0, .slice none 0 0]) W6 _).2.1 _ (hW6.2.1 _ (hW5.2.1 _ ⟨_, (hL4.block w.heap.size (by omega)).trans p1, rfl⟩)))))
   generalize W6.heap.size = pb at *
   clear hbel hr1 e1 e8 e9 hst hW7 hW6 hs6 hcur hsz hW8
   have hs8 := (bl9 p8)
   have P8 := block_cell p8
   go_wp2_with fail
   have hR8 := (((hI.below hwW8).take k (by omega)).cutAt 20 (by omega)).drew 1
   obtain ⟨v9, W9, hrun9, hown9, hgr9⟩ := run_app (P := Tryz.prog) W8.drew 24 24 5 (pb + 1) i0 Tryz.underlying24 hi hz0 hz1 hz2 (.slice none 0 0) [] (World.ownsRow_nil _ _ _ _) w.heap.size _ ((zs.take k).drop 20) hR8 (by simp; omega) hs8
   have hl9 : Later W8 W9 := Later.trans (Later.drew W8) ((Below.refl _ W8.drew).grown hgr9 (Nat.le_refl _) (fun _ e => by cases e))
   have hO9 := Ow.of_row hown9
   rw [List.nil_append] at hO9
   obtain ⟨a9, cap9, rfl, hq9, hm9⟩ := hO9.slice
   clear hown9 hgr9 hR8
   have p9 := (hl9.block pb hs8).trans p8
   have P9 := block_cell p9
   have F9 := block_frozen p9
   have hLo : Hid (((zs.take k).drop 20).length = k - 20) := by show _ = _; simp; omega
   rw [hLo.out] at hrun9 hO9
   have i20 : (20 : Int) ≤ k := by omega
   go_region_law (refine step_run rfl (.tmp 92) (.tmp 95) 24 rfl _ _ rfl rfl _ W9 hrun9 ?_)
   clear hrun9 P8 P9 F9
   generalize (if cap = 20 then some (⟨b, off, none⟩ : Addr) else some ⟨b, off + 20, none⟩) = ad20 at *
   have p10 : (W9.setCell ⟨pb, 7, none⟩ (.slice a9 (k - 20) cap9)).heap[pb]? = some (.cells (List.toArray [.int .u8 z1, .int .u16 (wat zs 4), .bool (decide (16384 ≤ wat zs 6)), .int .u8 z8, .int .u8 z9, .int .u32 (wat4 zs 12), .int .u32 (wat4 zs 16), .slice a9 (k - 20) cap9, .slice none 0 0]) 26 (0, 0)) := heap_set1 p9 7 (.slice a9 (k - 20) cap9)
   have hE9 : But (fun b => b = pb) W9 (W9.setCell ⟨pb, 7, none⟩ (.slice a9 (k - 20) cap9)) := (But.refl (fun b => b = pb) W9).setCell (p := ⟨pb, 7, none⟩) (E := fun b => b = pb) rfl _
   have hO10 := hO9.but hE9 (fun b h e => by omega)
   have hw10 : Below w.heap.size w _ := (hwW8.trans (hl9.mono hwW8.size)).setCell (p := ⟨pb, 7, none⟩) (Nat.le_of_lt hq8) (.slice a9 (k - 20) cap9)
   have pw10 : Wr w.heap.size 9 26 (W9.setCell ⟨pb, 7, none⟩ (.slice a9 (k - 20) cap9)) := by
    obtain ⟨c, h1, h2⟩ := pw8.later hl9
    exact ⟨c, (hE9.block _ (bl9 h1) (by omega)).trans h1, h2⟩
   generalize W9.setCell ⟨pb, 7, none⟩ (.slice a9 (k - 20) cap9) = W10 at *
   clear hO9 p9 hE9 hl9 hwW8 pw8
   have hs10 := (bl9 p10)
   have P10 := block_cell p10
   go_wp2_with fail
   have hR10 := (((hI.below hw10).take n (by omega)).cutAt k (by omega)).drew 1
   obtain ⟨v11, W11, hrun11, hown11, hgr11⟩ := run_app (P := Tryz.prog) W10.drew 24 24 5 (pb + 1) i0 Tryz.underlying24 hi hz0 hz1 hz2 (.slice none 0 0) [] (World.ownsRow_nil _ _ _ _) w.heap.size _ ((zs.take n).drop k) hR10 (by simp; omega) hs10
   have hl11 : Later W10 W11 := Later.trans (Later.drew W10) ((Below.refl _ W10.drew).grown hgr11 (Nat.le_refl _) (fun _ e => by cases e))
   have hO11 := Ow.of_row hown11
   rw [List.nil_append] at hO11
   obtain ⟨a11, cap11, rfl, hq11, hm11⟩ := hO11.slice
   clear hown11 hgr11 hR10
   have p11 := (hl11.block pb hs10).trans p10
   have P11 := block_cell p11
   have F11 := block_frozen p11
   have hLd : Hid (((zs.take n).drop k).length = n - k) := by show _ = _; simp; try omega
   rw [hLd.out] at hrun11 hO11
   have ikn : (k : Int) ≤ n := by omega
   have inc : n ≤ cap := by omega
   have inc2 : (n : Int) ≤ cap := by omega
   go_region_law (refine step_run rfl (.tmp 99) (.tmp 103) 24 rfl _ _ rfl rfl _ W11 hrun11 ?_)
   clear hrun11 P10 P11 F11
   generalize (if cap = k then some (⟨b, off, none⟩ : Addr) else some ⟨b, off + k, none⟩) = adk at *
   have p12 : (W11.setCell ⟨pb, 8, none⟩ (.slice a11 (n - k) cap11)).heap[pb]? = some (.cells (List.toArray [.int .u8 z1, .int .u16 (wat zs 4), .bool (decide (16384 ≤ wat zs 6)), .int .u8 z8, .int .u8 z9, .int .u32 (wat4 zs 12), .int .u32 (wat4 zs 16), .slice a9 (k - 20) cap9, .slice a11 (n - k) cap11]) 26 (0, 0)) := heap_set1 p11 8 (.slice a11 (n - k) cap11)
   have hE11 : But (fun b => b = pb) W11 (W11.setCell ⟨pb, 8, none⟩ (.slice a11 (n - k) cap11)) := (But.refl (fun b => b = pb) W11).setCell (p := ⟨pb, 8, none⟩) (E := fun b => b = pb) rfl _
   have hO12 := hO11.but hE11 (fun b h e => by omega)
   have hO13 := (hO10.below hl11 (Nat.le_refl _)).but hE11 (fun b h e => by omega)
   have hw12 : Below w.heap.size w _ := (hw10.trans (hl11.mono hw10.size)).setCell (p := ⟨pb, 8, none⟩) (Nat.le_of_lt hq8) (.slice a11 (n - k) cap11)
   have pw12 : Wr w.heap.size 9 26 (W11.setCell ⟨pb, 8, none⟩ (.slice a11 (n - k) cap11)) := by
    obtain ⟨c, h1, h2⟩ := pw10.later hl11
    exact ⟨c, (hE11.block _ (bl9 h1) (by omega)).trans h1, h2⟩
   generalize W11.setCell ⟨pb, 8, none⟩ (.slice a11 (n - k) cap11) = W12 at *
   clear hO11 p11 hE11 hl11 hw10 pw10 hO10
   have P12 := block_cell p12
   obtain ⟨cur, hcur, hsz⟩ := pw12
   have C12 := block_cell hcur
   have F12 := block_frozen hcur
   go_wp2_with fail
   generalize hV : ((((((((W12.setCell ⟨w.heap.size, 0, none⟩ _).setCell ⟨w.heap.size, 1, none⟩ _).setCell ⟨w.heap.size, 2, none⟩ _).setCell ⟨w.heap.size, 3, none⟩ _).setCell ⟨w.heap.size, 4, none⟩ _).setCell ⟨w.heap.size, 5, none⟩ _).setCell ⟨w.heap.size, 6, none⟩ _).setCell ⟨w.heap.size, 7, none⟩ _).setCell ⟨w.heap.size, 8, none⟩ _ = V
   have hV9 : V = putRow W12 w.heap.size 0 [.int .u8 z1, .int .u16 (wat zs 4), .bool (decide (16384 ≤ wat zs 6)), .int .u8 z8, .int .u8 z9, .int .u32 (wat4 zs 12), .int .u32 (wat4 zs 16), .slice a9 (k - 20) cap9, .slice a11 (n - k) cap11] := hV.symm
   have hb13 : But (fun b => b = w.heap.size) W12 V := by rw [hV9]; exact putRow_but (E := fun b => b = w.heap.size) (n := w.heap.size) rfl _ _ _ _ (But.refl _ _)
   have p13 := putRow_all [.int .u8 z1, .int .u16 (wat zs 4), .bool (decide (16384 ≤ wat zs 6)), .int .u8 z8, .int .u8 z9, .int .u32 (wat4 zs 12), .int .u32 (wat4 zs 16), .slice a9 (k - 20) cap9, .slice a11 (n - k) cap11] hcur (by simpa using hsz)
   rw [← hV9] at p13
   have hd : decide (16384 ≤ wat zs 6 % 32768) = decide (16384 ≤ wat zs 6) := by rw [Int.emod_eq_of_lt (by omega) (by omega)]
   have hpk : pkt zs (.slice a9 (k - 20) cap9) (.slice a11 (n - k) cap11) = .agg (List.toArray [.int .u8 z1, .int .u16 (wat zs 4), .bool (decide (16384 ≤ wat zs 6)), .int .u8 z8, .int .u8 z9, .int .u32 (wat4 zs 12), .int .u32 (wat4 zs 16), .slice a9 (k - 20) cap9, .slice a11 (n - k) cap11]) := by unfold pkt; rw [G1.out, G8.out, G9.out, hd]
   refine bodyPost_ret (v := .tuple #[pkt zs (.slice a9 (k - 20) cap9) (.slice a11 (n - k) cap11), .int .i64 0]) (by rw [hpk]; exact res_rread _ w.heap.size 0 _ _ _ _ _ _ _ _ _ V rfl rfl p13) rfl ⟨hw12.trans (hb13.below hw12.size (fun j h e => by omega)), .inr ⟨HR.out, _, _, rfl, ?_, ?_⟩⟩
   ·rw [HK.out, Int.toNat_natCast]
    exact (hO13.but hb13 (fun b h e => by omega)).mono (by omega)
   ·rw [HK.out, HN.out, Int.toNat_natCast, Int.toNat_natCast]
    exact (hO12.but hb13 (fun b h e => by omega)).mono (by omega)
end Go.Proofs.YtghpakfjpdifaaaGreatDoor

/- The document's Parse and Quote. -/
namespace Go.Proofs.YtghpakfjpdifaaaGreatDoor
open Go.RowKit Go.Shelf
set_option maxRecDepth 100000
set_option linter.unusedVariables false
set_option linter.unusedSimpArgs false

set_option maxHeartbeats 1000000 in
theorem rparse_any (sv : Value) (zs : List Int) (w : World) (hB : Mt.By zs) (hl : zs.length ≤ 140737488355328) (hI : Rd w.heap.size w sv zs) :
  Calls Tryz.prog 13 #[sv] w fun e w' => Below w.heap.size w w' ∧
   ((rde false zs ≠ 0 ∧ e = .returned (.tuple #[.agg zc.toArray, .int .i64 (rde false zs)])) ∨
    (rde false zs = 0 ∧ ∃ so sd, e = .returned (.tuple #[pkt zs so sd, .int .i64 0]) ∧ Ow w.heap.size w' so ((zs.take (hl4 zs).toNat).drop 20) ∧ Ow w.heap.size w' sd ((zs.take (ral false zs).toNat).drop (hl4 zs).toNat))) := by
 obtain ⟨a, cap, rfl, hl1, hm1⟩ := hI.slice
 have hb1 : Below w.heap.size w (w.alloc (.cells zc.toArray 26)) := (Below.refl _ _).alloc (Nat.le_refl _) _
 have p1 := heap_alloc_new w (.cells zc.toArray 26)
 have H := hide (rread_any false _ zs (w.alloc (.cells zc.toArray 26)) hB hl ((hI.below hb1).mono (by simp)))
 go_enter Tryz.func13, Tryz.ntmps13
 go_wp2_with fail
 refine H.out.mono ?_
 rintro e w2 ⟨hb2, ⟨h, rfl⟩ | ⟨h, so, sd, rfl, hO1, hO2⟩⟩
 ·have p2 := (hb2.block w.heap.size (by simp)).trans p1
  have P2 := block_cell p2
  have F2 := block_frozen p2
  go_wp2_with fail
  generalize hV : ((((((((w2.setCell ⟨w.heap.size, 0, none⟩ _).setCell ⟨w.heap.size, 1, none⟩ _).setCell ⟨w.heap.size, 2, none⟩ _).setCell ⟨w.heap.size, 3, none⟩ _).setCell ⟨w.heap.size, 4, none⟩ _).setCell ⟨w.heap.size, 5, none⟩ _).setCell ⟨w.heap.size, 6, none⟩ _).setCell ⟨w.heap.size, 7, none⟩ _).setCell ⟨w.heap.size, 8, none⟩ _ = V
  have hV9 : V = putRow w2 w.heap.size 0 zc := hV.symm
  have hb8 : But (fun b => b = w.heap.size) w2 V := by rw [hV9]; exact putRow_but (E := fun b => b = w.heap.size) (n := w.heap.size) rfl _ _ _ _ (But.refl _ _)
  have p8 := putRow_all zc p2 rfl
  rw [← hV9] at p8
  clear hV hV9 P2 F2 H
  have P8 := block_cell p8
  have hbW := (hb1.trans (hb2.mono (by simp))).trans (hb8.below (by have := hb2.size; simp at this; omega) (fun j h e => by omega))
  exact bodyPost_ret (v := .tuple #[.agg zc.toArray, .int .i64 (rde false zs)]) (by simp [results, Tryz.results13, go_sem, P8]) rfl ⟨hbW, .inl ⟨h, rfl⟩⟩
 ·have p2 := (hb2.block w.heap.size (by simp)).trans p1
  have P2 := block_cell p2
  have F2 := block_frozen p2
  obtain ⟨aso, cso, rfl, _, _⟩ := hO1.slice
  obtain ⟨asd, csd, rfl, _, _⟩ := hO2.slice
  generalize hL1 : ((zs.take (hl4 zs).toNat).drop 20).length = lo at *
  generalize hL2 : ((zs.take (ral false zs).toNat).drop (hl4 zs).toNat).length = ld at *
  have HL1 := hide hL1
  have HL2 := hide hL2
  clear hL1 hL2
  unfold pkt
  go_wp2_with fail
  generalize hV : ((((((((w2.setCell ⟨w.heap.size, 0, none⟩ _).setCell ⟨w.heap.size, 1, none⟩ _).setCell ⟨w.heap.size, 2, none⟩ _).setCell ⟨w.heap.size, 3, none⟩ _).setCell ⟨w.heap.size, 4, none⟩ _).setCell ⟨w.heap.size, 5, none⟩ _).setCell ⟨w.heap.size, 6, none⟩ _).setCell ⟨w.heap.size, 7, none⟩ _).setCell ⟨w.heap.size, 8, none⟩ _ = V
  have hV9 : V = putRow w2 w.heap.size 0 [.int .u8 (zs[1]?.getD 0), .int .u16 (wat zs 4), .bool (decide (16384 ≤ wat zs 6 % 32768)), .int .u8 (zs[8]?.getD 0), .int .u8 (zs[9]?.getD 0), .int .u32 (wat4 zs 12), .int .u32 (wat4 zs 16), .slice aso lo cso, .slice asd ld csd] := hV.symm
  have hb8 : But (fun b => b = w.heap.size) w2 V := by rw [hV9]; exact putRow_but (E := fun b => b = w.heap.size) (n := w.heap.size) rfl _ _ _ _ (But.refl _ _)
  have p8 := putRow_all [.int .u8 (zs[1]?.getD 0), .int .u16 (wat zs 4), .bool (decide (16384 ≤ wat zs 6 % 32768)), .int .u8 (zs[8]?.getD 0), .int .u8 (zs[9]?.getD 0), .int .u32 (wat4 zs 12), .int .u32 (wat4 zs 16), .slice aso lo cso, .slice asd ld csd] p2 rfl
  rw [← hV9] at p8
  clear hV hV9 P2 F2 H
  have P8 := block_cell p8
  have hbW := (hb1.trans (hb2.mono (by simp))).trans (hb8.below (by have := hb2.size; simp at this; omega) (fun j h e => by omega))
  exact bodyPost_ret (v := .tuple #[pkt zs (.slice aso lo cso) (.slice asd ld csd), .int .i64 0]) (by simp [results, Tryz.results13, go_sem, P8, pkt]) rfl ⟨hbW, .inr ⟨h, _, _, rfl, (hO1.but hb8 (fun b h e => by simp at h; omega)).mono (by simp), (hO2.but hb8 (fun b h e => by simp at h; omega)).mono (by simp)⟩⟩

end Go.Proofs.YtghpakfjpdifaaaGreatDoor

/- The document's Inner: where it refuses; segments and datagrams. -/
namespace Go.Proofs.YtghpakfjpdifaaaGreatDoor
open Go.RowKit Go.Shelf
set_option maxRecDepth 100000
set_option linter.unusedVariables false
set_option linter.unusedSimpArgs false

end Go.Proofs.YtghpakfjpdifaaaGreatDoor

/- The document's Inner: messages, frames, others. -/
namespace Go.Proofs.YtghpakfjpdifaaaGreatDoor
open Go.RowKit Go.Shelf
set_option maxRecDepth 100000
set_option linter.unusedVariables false
set_option linter.unusedSimpArgs false

end Go.Proofs.YtghpakfjpdifaaaGreatDoor

/- Layer 5: live. -/
namespace Go.Proofs.YtghpakfjpdifaaaGreatDoor
open Go.RowKit Go.Shelf
set_option maxRecDepth 100000
set_option linter.unusedVariables false
set_option linter.unusedSimpArgs false

def z5 : List Int := udp 3 4 false 1 2 []
end Go.Proofs.YtghpakfjpdifaaaGreatDoor

/- The document's Inner in one form, its Quoted; the walk of TupleQuoted. -/
namespace Go.Proofs.YtghpakfjpdifaaaGreatDoor
open Go.RowKit Go.Shelf
set_option maxRecDepth 100000
set_option linter.unusedVariables false
set_option linter.unusedSimpArgs false

theorem begin_eq {d : List Int} (hB : Mt.By d) (h : 8 ≤ d.length) : pge 47 (d.take 8) = 4 ↔ bgz d = 4 := by
 have hl : (d.take 8).length = 8 := by simp; omega
 have hz : bgz (d.take 8) = bgz d := by unfold bgz; simp
 have hw := wat_bd (hB.take 8) 4
 have hg := ghd_bd (bgz d)
 unfold pge
 rw [if_neg (by decide), if_neg (by omega), hz]
 constructor
 ·intro h4
  by_cases e : bgz d = 4
  ·exact e
  ·rw [if_neg e] at h4
   by_cases e2 : ((d.take 8).length : Int) < ghd (bgz d) + wat (d.take 8) 4
   ·rw [if_pos e2] at h4; exact absurd h4 (by decide)
   ·rw [if_neg e2, if_neg (by omega)] at h4; exact absurd h4 (by decide)
 ·intro e
  rw [if_pos e]
end Go.Proofs.YtghpakfjpdifaaaGreatDoor

/- Mathematics: a whole packet, quoted in an error, and what is told of it when the error's quoted tuple is another one. -/
namespace Go.Proofs.YtghpakfjpdifaaaGreatDoor
open Go.RowKit Go.Shelf
set_option maxRecDepth 100000
set_option linter.unusedVariables false
set_option linter.unusedSimpArgs false

theorem rde_whole {R : List Int} (h : rde true R = 0) (hw : wat R 2 ≤ R.length) : rde false R = 0 ∧ ral false R = ral true R := by
 have hr : ral false R = ral true R := by unfold ral; simp; omega
 obtain ⟨h1, h2, h3⟩ := rde_zero h
 refine ⟨?_, hr⟩
 unfold rde
 rw [if_neg (by simp [h1]), if_neg (by rw [hr]; omega), if_neg (by simp [h3]), if_neg (by simp)]
theorem rde_true {R : List Int} (h : rde false R = 0) (hw : wat R 2 ≤ R.length) (h8 : 8 ≤ wat R 2 - hl4 R) : rde true R = 0 := by
 have hr : ral false R = ral true R := by unfold ral; simp; omega
 have hr2 : ral true R = wat R 2 := by rw [← hr]; rfl
 obtain ⟨h1, h2, h3⟩ := rde_zero h
 unfold rde
 rw [if_neg (by simp [h1]), if_neg (by rw [← hr]; omega), if_neg (by simp [h3]), if_neg (by rw [hr2]; omega)]

theorem rqt_w2 {mz : List Int} {s d a b : Int} (hB : Mt.By mz) (hrd : rde true mz = 0) : wat (rqt (qun mz s d a b) mz) 2 = wat mz 2 ∧ hl4 (rqt (qun mz s d a b) mz) = hl4 mz := by
 obtain ⟨h20, hhe, hel⟩ := rde_facts hB hrd
 have hE : rqt (qun mz s d a b) mz = rnm s d (mz.take (hl4 mz).toNat) ++ (qsD (qpr mz) (qun mz s d a b) (qdt mz) ++ mz.drop (ral true mz).toNat) := rfl
 have hT : (mz.take (hl4 mz).toNat).length = (hl4 mz).toNat := by rw [List.length_take]; omega
 have hH : (rnm s d (mz.take (hl4 mz).toNat)).length = (hl4 mz).toNat := by rw [rnm_length, hT]
 have hsm : ∀ j, j < 10 → (rqt (qun mz s d a b) mz)[j]? = mz[j]? := fun j hj => by
  rw [hE, List.getElem?_append_left (by omega), rnm_other s d (by rw [hT]; exact h20) j (.inl hj), List.getElem?_take_of_lt (by omega)]
 exact ⟨wat_same (hsm 2 (by omega)) (hsm 3 (by omega)), by unfold hl4; rw [hsm 0 (by omega)]⟩

theorem qie_of {pr src dst : Int} {zd : List Int} (hB : Mt.By zd) (ho : ofe pr src dst zd = 0) (hok : pok pr) : qie pr zd = 0 ∧ 8 ≤ zd.length := by
 rcases hok with rfl | rfl | rfl | rfl
 ·have := pte_facts (show pte 6 src dst zd = 0 from ho)
  exact ⟨rfl, by omega⟩
 ·exact ⟨rfl, (pue_facts (show pue 17 src dst zd = 0 from ho)).1⟩
 ·obtain ⟨h8, _, he⟩ := oie_facts (show oie zd = 0 from ho)
  exact ⟨if_pos he, h8⟩
 ·obtain ⟨h8, hn, _⟩ := pge_facts (show pge 47 zd = 0 from ho)
  have hq : ¬ pge 47 (zd.take 8) = 4 := fun e => by
   have := (begin_eq hB h8).1 e
   omega
  exact ⟨if_neg hq, h8⟩
theorem pok_of {pr src dst : Int} {zd : List Int} (ho : ofe pr src dst zd = 0) : pok pr := by
 unfold ofe at ho
 unfold pok
 split at ho
 ·omega
 split at ho
 ·omega
 split at ho
 ·omega
 split at ho
 ·omega
 ·omega

/-- A packet's bytes. -/
def pbs (tos id : Int) (keep : Bool) (ttl pr src dst : Int) (zo zd : List Int) : List Int := hdr tos id keep ttl pr src dst zo (20 + zo.length + zd.length) ++ zd

theorem inner_math (tos id : Int) (keep : Bool) (ttl pr src dst : Int) (zo zd : List Int) (s d a b : Int) (hBo : Mt.By zo) (hBd : Mt.By zd) (hf : flt zo.length zd.length = 0)
  (ht : 0 ≤ tos ∧ tos ≤ 255) (hid : 0 ≤ id ∧ id ≤ 65535) (htt : 0 ≤ ttl ∧ ttl ≤ 255) (hpr : 0 ≤ pr ∧ pr ≤ 255) (hsr : 0 ≤ src ∧ src ≤ 4294967295) (hds : 0 ≤ dst ∧ dst ≤ 4294967295)
  (hs : 0 ≤ s ∧ s ≤ 4294967295) (hd : 0 ≤ d ∧ d ≤ 4294967295) (ha : 0 ≤ a ∧ a ≤ 65535) (hb : 0 ≤ b ∧ b ≤ 65535) (ho : ofe pr src dst zd = 0) :
  Mt.By (pbs tos id keep ttl pr src dst zo zd) ∧ (pbs tos id keep ttl pr src dst zo zd).length = 20 + zo.length + zd.length ∧ que 1 (icm 3 0 0 (pbs tos id keep ttl pr src dst zo zd)) = 0 ∧ qpr (pbs tos id keep ttl pr src dst zo zd) = pr ∧
  qun (pbs tos id keep ttl pr src dst zo zd) s d a b = ⟨pr, src, dst, qia pr zd, qib pr zd, pr, s, d, a, b⟩ ∧
  (∀ R, R = rqt (qun (pbs tos id keep ttl pr src dst zo zd) s d a b) (pbs tos id keep ttl pr src dst zo zd) → Mt.By R ∧ R.length = 20 + zo.length + zd.length ∧ rde false R = 0 ∧ R[9]?.getD 0 = pr ∧ wat4 R 12 = s ∧ wat4 R 16 = d ∧ (R.take (ral false R).toNat).drop (hl4 R).toNat = qsD pr ⟨pr, src, dst, qia pr zd, qib pr zd, pr, s, d, a, b⟩ zd) := by
 obtain ⟨h40, h4, hall⟩ := flt_fit2 hf
 have hok := pok_of ho
 obtain ⟨hq, h8⟩ := qie_of hBd ho hok
 have hBh : Mt.By (h20 tos id keep ttl pr src dst zo.length (20 + zo.length + zd.length) 0 ++ zo) := by
  rw [g20_of]
  refine (g20_by tos id _ ttl pr src dst zo.length _ 0 h40 ht hid ?_ htt hpr hsr hds ?_ (by omega)).append hBo
  ·cases keep <;> simp
  ·omega
 have hBm : Mt.By (pbs tos id keep ttl pr src dst zo zd) := by
  unfold pbs
  refine Mt.By.append ?_ hBd
  rw [hdr_eq, g20_of]
  refine (g20_by tos id _ ttl pr src dst zo.length _ _ h40 ht hid ?_ htt hpr hsr hds ?_ (Mt.cks_bd _)).append hBo
  ·cases keep <;> simp
  ·omega
 have hlen : (pbs tos id keep ttl pr src dst zo zd).length = 20 + zo.length + zd.length := by unfold pbs; rw [List.length_append, hdr_len]
 have hrf : rde false (pbs tos id keep ttl pr src dst zo zd) = 0 := by
  have := rde_built tos id keep ttl pr src dst zo zd [] h40 h4 hall hBh
  rwa [List.append_nil] at this
 have hw2 : wat (pbs tos id keep ttl pr src dst zo zd) 2 = 20 + zo.length + zd.length := hdr_wat2 tos id keep ttl pr src dst zo zd _
 have hhl : hl4 (pbs tos id keep ttl pr src dst zo zd) = ((20 + zo.length : Nat) : Int) := hl4_hdr tos id keep ttl pr src dst zo zd _ h40 h4
 have h9 : (pbs tos id keep ttl pr src dst zo zd)[9]?.getD 0 = pr := hdr_9 tos id keep ttl pr src dst zo zd _
 have h12 : wat4 (pbs tos id keep ttl pr src dst zo zd) 12 = src := hdr_src tos id keep ttl pr src dst zo zd _
 have h16 : wat4 (pbs tos id keep ttl pr src dst zo zd) 16 = dst := hdr_dst tos id keep ttl pr src dst zo zd _
 have hdp : (pbs tos id keep ttl pr src dst zo zd).drop (20 + zo.length) = zd := hdr_drop tos id keep ttl pr src dst zo zd _
 generalize pbs tos id keep ttl pr src dst zo zd = mz at *
 have hrt : rde true mz = 0 := rde_true hrf (by omega) (by omega)
 have hra : ral true mz = 20 + zo.length + zd.length := by unfold ral; simp; omega
 have hqd : qdt mz = zd := by
  unfold qdt
  rw [hra, hhl, List.take_of_length_le (by omega), Int.toNat_natCast]
  exact hdp
 have hqp : qpr mz = pr := h9
 have hqu : qun mz s d a b = ⟨pr, src, dst, qia pr zd, qib pr zd, pr, s, d, a, b⟩ := by unfold qun; rw [hqp, h12, h16, hqd]
 refine ⟨hBm, hlen, ?_, hqp, hqu, ?_⟩
 ·unfold que
  rw [icm_pie 3 0 0 mz (by omega) (by omega) (by omega) hBm, icm_0, icm_drop, hrt, hqp, hqd, hq]
  simp [erb]
 ·rintro R rfl
  obtain ⟨t1, t2, t3, t4, t5⟩ := rqt_tells hBm hrt (by rw [hqp, hqd]; exact hq) hs hd ha hb
  obtain ⟨u2, u3⟩ := rqt_w2 (s := s) (d := d) (a := a) (b := b) hBm hrt
  have hl := rqt_length (u := qun mz s d a b) hBm hrt
  have hBR : Mt.By (rqt (qun mz s d a b) mz) := by
   refine ((rnm_by (hBm.take _) hs hd).append ((qsD_by (By_qdt hBm) ?_).append (hBm.drop _)))
   exact ⟨hs, hd, ha, hb⟩
  obtain ⟨v1, v2⟩ := rde_whole t1 (by rw [u2, hl]; omega)
  refine ⟨hBR, by rw [hl]; exact hlen, v1, by rw [show (rqt (qun mz s d a b) mz)[9]?.getD 0 = qpr mz from t2]; exact hqp, t3, t4, ?_⟩
  rw [v2]
  rw [hqp, hqd, hqu] at t5
  unfold qdt at t5
  rw [hqu]
  exact t5
end Go.Proofs.YtghpakfjpdifaaaGreatDoor

/- The document's header and Build of a packet. -/
namespace Go.Proofs.YtghpakfjpdifaaaGreatDoor
open Go.RowKit Go.Shelf
set_option maxRecDepth 100000
set_option linter.unusedVariables false
set_option linter.unusedSimpArgs false

/-- A row of the call's own that grows, all from Wb on. -/
def Row (Wb : World) (v : Value) (ys : List Int) (W : World) : Prop := W.ownsRow Wb.heap.size 5 1 v ys.length (ys.map (Value.int .u8)) ∧ Below Wb.heap.size Wb W
theorem row_mono {base base' n : Nat} {e : TypeId} {W : World} {v : Value} {xs : List Value} (h : W.ownsRow base e 1 v n xs) (hb : base' ≤ base) : W.ownsRow base' e 1 v n xs :=
 ⟨h.1, h.2.imp id (fun ⟨g, cap, cur, h1, h2, h3⟩ => ⟨g, cap, cur, h1, Nat.le_trans hb h2, h3⟩)⟩
theorem Row.alloc {Wb W : World} {v : Value} {ys : List Int} (h : Row Wb v ys W) (o : Obj) : Row Wb v ys (W.alloc o) := ⟨h.1.alloc o, h.2.alloc h.2.size o⟩
theorem Row.two (Wb : World) (x y : Int) : Row Wb (.slice (some ⟨Wb.heap.size, 0, none⟩) 2 2) [x, y] (Wb.alloc (.cells #[.int .u8 x, .int .u8 y] 5)) :=
 ⟨⟨by simp, .inr ⟨Wb.heap.size, 2, _, rfl, Nat.le_refl _, heap_alloc_new Wb _, Nat.le_refl _, by unfold maxLen; omega, rfl, rfl⟩⟩, (Below.refl _ _).alloc (Nat.le_refl _) _⟩
theorem Row.cell {Wb W : World} {v u : Value} {ys : List Int} (h : Row Wb v ys W) {p : Addr} (hc : Wb.cell? p = some u) : W.cell? p = some u := (h.2.cell (World.block_lt_of_cell? Wb p hc)).trans hc
theorem wpList_row {P : Program} {ops : Array Oper} {rest : List Oper} {o : Oper} {a : Act} {Q : Exit → Act → World → Prop} (w : World) (hgd : o.guard = none) (s x : Operand) (t : TypeId)
  (ho : o.op = .call { callee := .builtin .append, args := #[s, x], argTypes := #[t, t] })
  (Wb : World) (i : TypeInfo) (ht : P.underlying t = some (.slice 5)) (hi : P.info? 5 = some i) (hz : i.zero = some (.int .u8 0)) (hsize : i.size = 1) (hby : i.bytes = 1)
  (v : Value) (ys : List Int) (hs : a.eval s = v) (hR : Row Wb v ys w)
  (n₀ : Nat) (sx : Value) (zs : List Int) (hx : a.eval x = sx) (hI : Rd n₀ w sx zs) (hbd : ys.length + zs.length ≤ 140737488355328)
  (h : ∀ v' w', Row Wb v' (ys ++ zs) w' → wpList P ops Q rest (a.put o.dst v') w') : wpList P ops Q (o :: rest) a w :=
 wpList_app w hgd s x t ho Wb.heap.size 5 i ht hi hz hsize hby v ys hs hR.1 n₀ sx zs hx hI hbd hR.2.size (fun v' w' h1 h2 => h v' w' ⟨h1, below_app hR.2 hR.1 h2 (Nat.le_refl _) hR.2.size⟩)

set_option maxHeartbeats 1000000 in
theorem rput16_row (sv : Value) (zs : List Int) (n : Nat) (v : Int) (hl : zs.length ≤ 140737488355328) (k1 : n + 1 < zs.length) (w : World) (hI : Rd w.heap.size w sv zs) (hv : 0 ≤ v ∧ v ≤ 65535) :
  Calls Tryz.prog 22 #[sv, .int .i64 n, .int .u16 v] w fun e w' => ∃ r, e = .returned r ∧ w'.ownsRow w.heap.size 5 1 r zs.length ((Mt.put2 zs n v).map (Value.int .u8)) ∧ Below w.heap.size w w' := by
 obtain ⟨i0, hi, hz0, hz1, hz2⟩ := info_parts info_u8
 obtain ⟨a, cap, rfl, h1, h2⟩ := hI.slice
 have t0 : (0 : Int) ≤ n := by omega
 have t1 : 2 ≤ (zs.length : Int) := by omega
 have t2 : (n : Int) ≤ (zs.length : Int) - 2 := by omega
 have i1 : (n : Int) < zs.length := by omega
 have i2 : (n : Int) + 1 < zs.length := by omega
 go_enter Tryz.func22, Tryz.ntmps22
 go_wp2_with (at_builtin; refine wpList_app _ rfl (.tmp 8) (.tmp 9) 24 rfl w.heap.size 5 i0 Tryz.underlying24 hi hz0 hz1 hz2 _ [] rfl (World.ownsRow_nil _ _ _ _) w.heap.size _ zs rfl hI (by simp; omega) (by simp) ?_; intro v2 w2 hown2 hg2; have hb2 := (Below.refl w.heap.size w).grown hg2 (by simp) (fun k e => by cases e); clear hg2; have hO2 := Ow.of_row hown2; simp only [List.nil_append] at hO2 hown2; have HW := hide hown2; clear hown2; obtain ⟨a2, cap2, rfl, hl2, hm2⟩ := hO2.slice; obtain ⟨g, rfl, _, hg, hcf, hset⟩ := hO2.at (by omega); obtain ⟨c0, f0⟩ := hcf n (by omega); obtain ⟨c1, f1⟩ := hcf (n + 1) k1; clear hcf)
 go_ret
 refine ⟨_, rfl, ?_, (hb2.setCell (p := ⟨g, n, none⟩) hg _).setCell (p := ⟨g, n + 1, none⟩) hg _⟩
 have := ((HW.out.stored n (.int .u8 (v / 256))).1.stored (n + 1) (.int .u8 (v % 256))).1
 simpa [Mt.put2, List.map_set] using this

set_option maxHeartbeats 4000000 in
theorem rheader_any (tos id ttl proto src dst : Int) (keep : Bool) (so : Value) (zo : List Int) (ad : Option Addr) (ld cd : Nat) (all : Int) (w : World) (hO : Mt.By zo) (hI : Rd w.heap.size w so zo)
  (hlo : zo.length ≤ 40) (hlm : zo.length % 4 = 0) (hall : 0 ≤ all ∧ all ≤ 65535) (ht : 0 ≤ tos ∧ tos ≤ 255) (hid : 0 ≤ id ∧ id ≤ 65535) (htt : 0 ≤ ttl ∧ ttl ≤ 255) (hpr : 0 ≤ proto ∧ proto ≤ 255) (hsr : 0 ≤ src ∧ src ≤ 4294967295) (hds : 0 ≤ dst ∧ dst ≤ 4294967295) :
  Calls Tryz.prog 32 #[.agg #[.int .u8 tos, .int .u16 id, .bool keep, .int .u8 ttl, .int .u8 proto, .int .u32 src, .int .u32 dst, so, .slice ad ld cd], .int .i64 all] w fun e w' => ∃ v, e = .returned v ∧ w'.ownsRow w.heap.size 5 1 v (hdr tos id keep ttl proto src dst zo all).length ((hdr tos id keep ttl proto src dst zo all).map (Value.int .u8)) ∧ Below w.heap.size w w' := by
 obtain ⟨i0, hi, hz0, hz1, hz2⟩ := info_parts info_u8
 obtain ⟨ao, co, rfl, hl1, hm1⟩ := hI.slice
 have hwr : IntKind.u16.wrap all = all := by simp [IntKind.wrap, IntKind.bits, IntKind.signed]; omega
 have hw0 : IntKind.u8.wrap (69 + (zo.length : Int) / 4) = 69 + (zo.length : Int) / 4 := by simp [IntKind.wrap, IntKind.bits, IntKind.signed]; omega
 have hwr : IntKind.u16.wrap all = all := by simp [IntKind.wrap, IntKind.bits, IntKind.signed]; omega
 have hw0 : IntKind.u8.wrap (69 + (zo.length : Int) / 4) = 69 + (zo.length : Int) / 4 := by simp [IntKind.wrap, IntKind.bits, IntKind.signed]; omega
 have hwr : IntKind.u16.wrap all = all := by simp [IntKind.wrap, IntKind.bits, IntKind.signed]; omega
 have hw0 : IntKind.u8.wrap (69 + (zo.length : Int) / 4) = 69 + (zo.length : Int) / 4 := by simp [IntKind.wrap, IntKind.bits, IntKind.signed]; omega
 have hwr : IntKind.u16.wrap all = all := by simp [IntKind.wrap, IntKind.bits, IntKind.signed]; omega
 have hw0 : IntKind.u8.wrap (69 + (zo.length : Int) / 4) = 69 + (zo.length : Int) / 4 := by simp [IntKind.wrap, IntKind.bits, IntKind.signed]; omega
 have hwr : IntKind.u16.wrap all = all := by simp [IntKind.wrap, IntKind.bits, IntKind.signed]; omega
 have hw0 : IntKind.u8.wrap (69 + (zo.length : Int) / 4) = 69 + (zo.length : Int) / 4 := by simp [IntKind.wrap, IntKind.bits, IntKind.signed]; omega
 have hwr : IntKind.u16.wrap all = all := by simp [IntKind.wrap, IntKind.bits, IntKind.signed]; omega
 have hw0 : IntKind.u8.wrap (69 + (zo.length : Int) / 4) = 69 + (zo.length : Int) / 4 := by simp [IntKind.wrap, IntKind.bits, IntKind.signed]; omega
 have hbox : Below w.heap.size w (w.alloc (.cells #[.int .u8 tos, .int .u16 id, .bool keep, .int .u8 ttl, .int .u8 proto, .int .u32 src, .int .u32 dst, .slice ao zo.length co, .slice ad ld cd] 26)) := (Below.refl _ _).alloc (Nat.le_refl _) _
 have hblk := heap_alloc_new w (.cells #[.int .u8 tos, .int .u16 id, .bool keep, .int .u8 ttl, .int .u8 proto, .int .u32 src, .int .u32 dst, .slice ao zo.length co, .slice ad ld cd] 26)
 cases keep
 ·have hsb : (w.alloc (.cells #[.int .u8 tos, .int .u16 id, .bool false, .int .u8 ttl, .int .u8 proto, .int .u32 src, .int .u32 dst, .slice ao zo.length co, .slice ad ld cd] 26)).heap.size = w.heap.size + 1 := by simp
  go_enter Tryz.func32, Tryz.ntmps32
  go_wp2_with fail
  generalize (w.alloc (.cells #[.int .u8 tos, .int .u16 id, .bool false, .int .u8 ttl, .int .u8 proto, .int .u32 src, .int .u32 dst, .slice ao zo.length co, .slice ad ld cd] 26)) = Wb at *
  have C0 : Wb.cell? ⟨w.heap.size, 0, none⟩ = some (.int .u8 tos) := block_cell hblk 0
  have C1 : Wb.cell? ⟨w.heap.size, 1, none⟩ = some (.int .u16 id) := block_cell hblk 1
  have C2 : Wb.cell? ⟨w.heap.size, 2, none⟩ = some (.bool false) := block_cell hblk 2
  have C3 : Wb.cell? ⟨w.heap.size, 3, none⟩ = some (.int .u8 ttl) := block_cell hblk 3
  have C4 : Wb.cell? ⟨w.heap.size, 4, none⟩ = some (.int .u8 proto) := block_cell hblk 4
  have C5 : Wb.cell? ⟨w.heap.size, 5, none⟩ = some (.int .u32 src) := block_cell hblk 5
  have C6 : Wb.cell? ⟨w.heap.size, 6, none⟩ = some (.int .u32 dst) := block_cell hblk 6
  have C7 : Wb.cell? ⟨w.heap.size, 7, none⟩ = some (.slice ao zo.length co) := block_cell hblk 7
  have hR1 := Row.two Wb (69 + (zo.length : Int) / 4) tos
  rw [hsb] at hR1
  generalize Wb.alloc (.cells #[.int .u8 (69 + (zo.length : Int) / 4), .int .u8 tos] 5) = w1 at *
  refine (two_any all hall _).mono ?_
  rintro e w2 ⟨rfl, rfl⟩
  go_wp2_with (at_builtin; refine wpList_row _ rfl (.tmp 15) (.tmp 18) 24 rfl Wb i0 Tryz.underlying24 hi hz0 hz1 hz2 _ [69 + (zo.length : Int) / 4, tos] rfl (hR1.alloc _) _ _ [all / 256, all % 256] rfl (Rd.new2 (all / 256) (all % 256) 5 w1) (by simp <;> omega) ?_; intro v3 w3 hR3; have d3x1 := hR3.cell C1)
  generalize hl3 : [69 + (zo.length : Int) / 4, tos] ++ [all / 256, all % 256] = l3 at *
  have n3 : l3.length = 4 := by rw [← hl3]; rfl
  have HL3 := hide hl3
  clear hl3 hR1
  refine (two_any id hid _).mono ?_
  rintro e w4 ⟨rfl, rfl⟩
  go_wp2_with (first
   | (at_builtin; refine wpList_row _ rfl (.tmp 20) (.tmp 23) 24 rfl Wb i0 Tryz.underlying24 hi hz0 hz1 hz2 _ l3 rfl (hR3.alloc _) _ _ [id / 256, id % 256] rfl (Rd.new2 (id / 256) (id % 256) 5 w3) (by simp <;> omega) ?_; intro v5 w5 hR5; have d5x2 := hR5.cell C2)
   | (at_builtin; refine wpList_row _ rfl (.tmp 30) (.tmp 31) 24 rfl Wb i0 Tryz.underlying24 hi hz0 hz1 hz2 _ (l3 ++ [id / 256, id % 256]) rfl (hR5.alloc _) _ _ [0, 0] rfl (Rd.new2 0 0 5 w5) (by simp <;> omega) ?_; intro v7 w7 hR7; have d7x3 := hR7.cell C3; have d7x4 := hR7.cell C4)
   | (at_builtin; refine wpList_row _ rfl (.tmp 33) (.tmp 38) 24 rfl Wb i0 Tryz.underlying24 hi hz0 hz1 hz2 _ (l3 ++ [id / 256, id % 256] ++ [0, 0]) rfl (hR7.alloc _) _ _ [ttl, proto, 0, 0] rfl (Rd.new4 ttl proto 0 0 5 w7) (by simp <;> omega) ?_; intro v9 w9 hR9; have d9x5 := hR9.cell C5))
  generalize hl9 : l3 ++ [id / 256, id % 256] ++ [0, 0] ++ [ttl, proto, 0, 0] = l9 at *
  have n9 : l9.length = 12 := by rw [← hl9]; simp [n3]
  have HL9 := hide hl9
  clear hl9 hR3 hR5 hR7
  refine (four_any src hsr _).mono ?_
  rintro e w10 ⟨rfl, rfl⟩
  go_wp2_with (at_builtin; refine wpList_row _ rfl (.tmp 40) (.tmp 43) 24 rfl Wb i0 Tryz.underlying24 hi hz0 hz1 hz2 _ l9 rfl (hR9.alloc _) _ _ [src / 16777216, src / 65536 % 256, src / 256 % 256, src % 256] rfl (Rd.new4 (src / 16777216) (src / 65536 % 256) (src / 256 % 256) (src % 256) 5 w9) (by simp <;> omega) ?_; intro v11 w11 hR11; have d11x6 := hR11.cell C6)
  generalize hl11 : l9 ++ [src / 16777216, src / 65536 % 256, src / 256 % 256, src % 256] = l11 at *
  have n11 : l11.length = 16 := by rw [← hl11]; simp [n9]
  have HL11 := hide hl11
  clear hl11 hR9
  refine (four_any dst hds _).mono ?_
  rintro e w12 ⟨rfl, rfl⟩
  go_wp2_with (first
   | (at_builtin; refine wpList_row _ rfl (.tmp 45) (.tmp 48) 24 rfl Wb i0 Tryz.underlying24 hi hz0 hz1 hz2 _ l11 rfl (hR11.alloc _) _ _ [dst / 16777216, dst / 65536 % 256, dst / 256 % 256, dst % 256] rfl (Rd.new4 (dst / 16777216) (dst / 65536 % 256) (dst / 256 % 256) (dst % 256) 5 w11) (by simp <;> omega) ?_; intro v13 w13 hR13; have d13x7 := hR13.cell C7)
   | (at_builtin; refine wpList_row _ rfl (.tmp 50) (.tmp 52) 24 rfl Wb i0 Tryz.underlying24 hi hz0 hz1 hz2 _ (l11 ++ [dst / 16777216, dst / 65536 % 256, dst / 256 % 256, dst % 256]) rfl (hR13) _ _ zo rfl (hI.below (hbox.trans (hR13.2.mono (by omega)))) (by simp <;> omega) ?_; intro v14 w14 hR14))
  have hO14 := Ow.of_row hR14.1
  have hll : l11 ++ [dst / 16777216, dst / 65536 % 256, dst / 256 % 256, dst % 256] ++ zo = hd0 tos id false ttl proto src dst zo all := by
   rw [hd0_eq, ← HL11.out, ← HL9.out, ← HL3.out]
   simp [h20]
   omega
  rw [hll] at hO14
  have hBd := By_hd0 tos id false ttl proto src dst zo all hO hlo ht hid htt hpr hsr hds hall
  have hlen := hd0_length tos id false ttl proto src dst zo all
  have HR : Hid (hdr tos id false ttl proto src dst zo all = putAt2 (hd0 tos id false ttl proto src dst zo all) 10 (Mt.cks (hd0 tos id false ttl proto src dst zo all))) := rfl
  have hw14 : Below w.heap.size w w14 := hbox.trans (hR14.2.mono (by omega))
  clear hll hR14 hR13 hR11 HL3 HL9 HL11
  generalize hd0 tos id false ttl proto src dst zo all = dd at *
  have hcb := Mt.cks_bd dd
  refine (rsum_any v14 dd hBd (by omega) w14 hO14.rd).mono ?_
  rintro e w15 ⟨rfl, hb15⟩
  obtain ⟨a14, cap14, rfl, hq14, hm14⟩ := hO14.slice
  have hO15 := hO14.below hb15 (Nat.le_refl _)
  have HLn := hide hlen
  clear hlen
  go_wp2_with fail
  refine (rput16_row _ dd 10 (Mt.cks dd) (by have := HLn.out; omega) (by have := HLn.out; omega) w15 hO15.rd hcb).mono ?_
  rintro e w16 ⟨r16, rfl, hO16, hb16⟩
  go_wp2
  go_ret
  have hw15 := hw14.trans (hb15.mono hw14.size)
  refine ⟨_, rfl, ?_, hw15.trans (hb16.mono hw15.size)⟩
  have hln := HLn.out
  rw [HR.out, putAt2_lit _ 10 10 _ rfl (by omega), Mt.put2_length]
  exact row_mono hO16 hw15.size
 ·have hsb : (w.alloc (.cells #[.int .u8 tos, .int .u16 id, .bool true, .int .u8 ttl, .int .u8 proto, .int .u32 src, .int .u32 dst, .slice ao zo.length co, .slice ad ld cd] 26)).heap.size = w.heap.size + 1 := by simp
  go_enter Tryz.func32, Tryz.ntmps32
  go_wp2_with fail
  generalize (w.alloc (.cells #[.int .u8 tos, .int .u16 id, .bool true, .int .u8 ttl, .int .u8 proto, .int .u32 src, .int .u32 dst, .slice ao zo.length co, .slice ad ld cd] 26)) = Wb at *
  have C0 : Wb.cell? ⟨w.heap.size, 0, none⟩ = some (.int .u8 tos) := block_cell hblk 0
  have C1 : Wb.cell? ⟨w.heap.size, 1, none⟩ = some (.int .u16 id) := block_cell hblk 1
  have C2 : Wb.cell? ⟨w.heap.size, 2, none⟩ = some (.bool true) := block_cell hblk 2
  have C3 : Wb.cell? ⟨w.heap.size, 3, none⟩ = some (.int .u8 ttl) := block_cell hblk 3
  have C4 : Wb.cell? ⟨w.heap.size, 4, none⟩ = some (.int .u8 proto) := block_cell hblk 4
  have C5 : Wb.cell? ⟨w.heap.size, 5, none⟩ = some (.int .u32 src) := block_cell hblk 5
  have C6 : Wb.cell? ⟨w.heap.size, 6, none⟩ = some (.int .u32 dst) := block_cell hblk 6
  have C7 : Wb.cell? ⟨w.heap.size, 7, none⟩ = some (.slice ao zo.length co) := block_cell hblk 7
  have hR1 := Row.two Wb (69 + (zo.length : Int) / 4) tos
  rw [hsb] at hR1
  generalize Wb.alloc (.cells #[.int .u8 (69 + (zo.length : Int) / 4), .int .u8 tos] 5) = w1 at *
  refine (two_any all hall _).mono ?_
  rintro e w2 ⟨rfl, rfl⟩
  go_wp2_with (at_builtin; refine wpList_row _ rfl (.tmp 15) (.tmp 18) 24 rfl Wb i0 Tryz.underlying24 hi hz0 hz1 hz2 _ [69 + (zo.length : Int) / 4, tos] rfl (hR1.alloc _) _ _ [all / 256, all % 256] rfl (Rd.new2 (all / 256) (all % 256) 5 w1) (by simp <;> omega) ?_; intro v3 w3 hR3; have d3x1 := hR3.cell C1)
  generalize hl3 : [69 + (zo.length : Int) / 4, tos] ++ [all / 256, all % 256] = l3 at *
  have n3 : l3.length = 4 := by rw [← hl3]; rfl
  have HL3 := hide hl3
  clear hl3 hR1
  refine (two_any id hid _).mono ?_
  rintro e w4 ⟨rfl, rfl⟩
  go_wp2_with (first
   | (at_builtin; refine wpList_row _ rfl (.tmp 20) (.tmp 23) 24 rfl Wb i0 Tryz.underlying24 hi hz0 hz1 hz2 _ l3 rfl (hR3.alloc _) _ _ [id / 256, id % 256] rfl (Rd.new2 (id / 256) (id % 256) 5 w3) (by simp <;> omega) ?_; intro v5 w5 hR5; have d5x2 := hR5.cell C2)
   | (at_builtin; refine wpList_row _ rfl (.tmp 27) (.tmp 28) 24 rfl Wb i0 Tryz.underlying24 hi hz0 hz1 hz2 _ (l3 ++ [id / 256, id % 256]) rfl (hR5.alloc _) _ _ [64, 0] rfl (Rd.new2 64 0 5 w5) (by simp <;> omega) ?_; intro v7 w7 hR7; have d7x3 := hR7.cell C3; have d7x4 := hR7.cell C4)
   | (at_builtin; refine wpList_row _ rfl (.tmp 33) (.tmp 38) 24 rfl Wb i0 Tryz.underlying24 hi hz0 hz1 hz2 _ (l3 ++ [id / 256, id % 256] ++ [64, 0]) rfl (hR7.alloc _) _ _ [ttl, proto, 0, 0] rfl (Rd.new4 ttl proto 0 0 5 w7) (by simp <;> omega) ?_; intro v9 w9 hR9; have d9x5 := hR9.cell C5))
  generalize hl9 : l3 ++ [id / 256, id % 256] ++ [64, 0] ++ [ttl, proto, 0, 0] = l9 at *
  have n9 : l9.length = 12 := by rw [← hl9]; simp [n3]
  have HL9 := hide hl9
  clear hl9 hR3 hR5 hR7
  refine (four_any src hsr _).mono ?_
  rintro e w10 ⟨rfl, rfl⟩
  go_wp2_with (at_builtin; refine wpList_row _ rfl (.tmp 40) (.tmp 43) 24 rfl Wb i0 Tryz.underlying24 hi hz0 hz1 hz2 _ l9 rfl (hR9.alloc _) _ _ [src / 16777216, src / 65536 % 256, src / 256 % 256, src % 256] rfl (Rd.new4 (src / 16777216) (src / 65536 % 256) (src / 256 % 256) (src % 256) 5 w9) (by simp <;> omega) ?_; intro v11 w11 hR11; have d11x6 := hR11.cell C6)
  generalize hl11 : l9 ++ [src / 16777216, src / 65536 % 256, src / 256 % 256, src % 256] = l11 at *
  have n11 : l11.length = 16 := by rw [← hl11]; simp [n9]
  have HL11 := hide hl11
  clear hl11 hR9
  refine (four_any dst hds _).mono ?_
  rintro e w12 ⟨rfl, rfl⟩
  go_wp2_with (first
   | (at_builtin; refine wpList_row _ rfl (.tmp 45) (.tmp 48) 24 rfl Wb i0 Tryz.underlying24 hi hz0 hz1 hz2 _ l11 rfl (hR11.alloc _) _ _ [dst / 16777216, dst / 65536 % 256, dst / 256 % 256, dst % 256] rfl (Rd.new4 (dst / 16777216) (dst / 65536 % 256) (dst / 256 % 256) (dst % 256) 5 w11) (by simp <;> omega) ?_; intro v13 w13 hR13; have d13x7 := hR13.cell C7)
   | (at_builtin; refine wpList_row _ rfl (.tmp 50) (.tmp 52) 24 rfl Wb i0 Tryz.underlying24 hi hz0 hz1 hz2 _ (l11 ++ [dst / 16777216, dst / 65536 % 256, dst / 256 % 256, dst % 256]) rfl (hR13) _ _ zo rfl (hI.below (hbox.trans (hR13.2.mono (by omega)))) (by simp <;> omega) ?_; intro v14 w14 hR14))
  have hO14 := Ow.of_row hR14.1
  have hll : l11 ++ [dst / 16777216, dst / 65536 % 256, dst / 256 % 256, dst % 256] ++ zo = hd0 tos id true ttl proto src dst zo all := by
   rw [hd0_eq, ← HL11.out, ← HL9.out, ← HL3.out]
   simp [h20]
   omega
  rw [hll] at hO14
  have hBd := By_hd0 tos id true ttl proto src dst zo all hO hlo ht hid htt hpr hsr hds hall
  have hlen := hd0_length tos id true ttl proto src dst zo all
  have HR : Hid (hdr tos id true ttl proto src dst zo all = putAt2 (hd0 tos id true ttl proto src dst zo all) 10 (Mt.cks (hd0 tos id true ttl proto src dst zo all))) := rfl
  have hw14 : Below w.heap.size w w14 := hbox.trans (hR14.2.mono (by omega))
  clear hll hR14 hR13 hR11 HL3 HL9 HL11
  generalize hd0 tos id true ttl proto src dst zo all = dd at *
  have hcb := Mt.cks_bd dd
  refine (rsum_any v14 dd hBd (by omega) w14 hO14.rd).mono ?_
  rintro e w15 ⟨rfl, hb15⟩
  obtain ⟨a14, cap14, rfl, hq14, hm14⟩ := hO14.slice
  have hO15 := hO14.below hb15 (Nat.le_refl _)
  have HLn := hide hlen
  clear hlen
  go_wp2_with fail
  refine (rput16_row _ dd 10 (Mt.cks dd) (by have := HLn.out; omega) (by have := HLn.out; omega) w15 hO15.rd hcb).mono ?_
  rintro e w16 ⟨r16, rfl, hO16, hb16⟩
  go_wp2
  go_ret
  have hw15 := hw14.trans (hb15.mono hw14.size)
  refine ⟨_, rfl, ?_, hw15.trans (hb16.mono hw15.size)⟩
  have hln := HLn.out
  rw [HR.out, putAt2_lit _ 10 10 _ rfl (by omega), Mt.put2_length]
  exact row_mono hO16 hw15.size

set_option maxHeartbeats 4000000 in
theorem rbuild_yes (tos id ttl proto src dst : Int) (keep : Bool) (so sd : Value) (zo zd : List Int) (w : World) (hBo : Mt.By zo) (hIo : Rd w.heap.size w so zo) (hId : Rd w.heap.size w sd zd)
  (hlo : zo.length ≤ 40) (hlm : zo.length % 4 = 0) (hall : 20 + zo.length + zd.length ≤ 65535) (ht : 0 ≤ tos ∧ tos ≤ 255) (hid : 0 ≤ id ∧ id ≤ 65535) (htt : 0 ≤ ttl ∧ ttl ≤ 255) (hpr : 0 ≤ proto ∧ proto ≤ 255) (hsr : 0 ≤ src ∧ src ≤ 4294967295) (hds : 0 ≤ dst ∧ dst ≤ 4294967295) :
  Calls Tryz.prog 10 #[.agg #[.int .u8 tos, .int .u16 id, .bool keep, .int .u8 ttl, .int .u8 proto, .int .u32 src, .int .u32 dst, so, sd]] w fun e w' => ∃ v, e = .returned (.tuple #[v, .int .i64 0]) ∧ Ow w.heap.size w' v (hdr tos id keep ttl proto src dst zo (20 + zo.length + zd.length) ++ zd) ∧ Below w.heap.size w w' := by
 obtain ⟨i0, hi, hz0, hz1, hz2⟩ := info_parts info_u8
 obtain ⟨ao, co, rfl, hl1, hm1⟩ := hIo.slice
 obtain ⟨ad, cd, rfl, hl2, hm2⟩ := hId.slice
 have hbox : Below w.heap.size w (w.alloc (.cells #[.int .u8 tos, .int .u16 id, .bool keep, .int .u8 ttl, .int .u8 proto, .int .u32 src, .int .u32 dst, .slice ao zo.length co, .slice ad zd.length cd] 26)) := (Below.refl _ _).alloc (Nat.le_refl _) _
 have hblk := heap_alloc_new w (.cells #[.int .u8 tos, .int .u16 id, .bool keep, .int .u8 ttl, .int .u8 proto, .int .u32 src, .int .u32 dst, .slice ao zo.length co, .slice ad zd.length cd] 26)
 have hsz : (w.alloc (.cells #[.int .u8 tos, .int .u16 id, .bool keep, .int .u8 ttl, .int .u8 proto, .int .u32 src, .int .u32 dst, .slice ao zo.length co, .slice ad zd.length cd] 26)).heap.size = w.heap.size + 1 := by simp
 have t1 : ¬ (40 : Int) < zo.length := by omega
 have t2 : ((zo.length : Int) % 4 != 0) = false := by simp; omega
 have t3 : ¬ (65535 : Int) < 20 + zo.length + zd.length := by omega
 have hlh : (hdr tos id keep ttl proto src dst zo (20 + zo.length + zd.length)).length = 20 + zo.length := hdr_len _ _ _ _ _ _ _ _ _
 go_enter Tryz.func10, Tryz.ntmps10
 go_wp2_with fail
 generalize w.alloc (.cells #[.int .u8 tos, .int .u16 id, .bool keep, .int .u8 ttl, .int .u8 proto, .int .u32 src, .int .u32 dst, .slice ao zo.length co, .slice ad zd.length cd] 26) = w1 at *
 have hIo1 := (hIo.below hbox).mono hbox.size
 have hId1 := (hId.below hbox).mono hbox.size
 have C1 := block_cell hblk
 have b8 : w1.cell? ⟨w.heap.size, 8, none⟩ = some (.slice ad zd.length cd) := C1 8
 have hs1 : w.heap.size < w1.heap.size := by omega
 have HL := hide hlh
 clear hlh
 go_region_law (first
  | (refine step_run rfl (.tmp 28) (.tmp 30) 24 rfl _ _ rfl rfl v5 w5 hrun ?_)
  | (go_simp; go_at_call 32; refine (rheader_any tos id ttl proto src dst keep _ zo ad zd.length cd (20 + zo.length + zd.length) w1.drew hBo (hIo1.drew 1) hlo hlm (by omega) ht hid htt hpr hsr hds).mono ?_; rintro e w4 ⟨v4, rfl, hO4, hb4⟩; have c8 : w4.cell? ⟨w.heap.size, 8, none⟩ = some (.slice ad zd.length cd) := (hb4.cell (p := ⟨w.heap.size, 8, none⟩) hs1).trans b8; obtain ⟨v5, w5, hrun, hO5, hg5⟩ := run_app (P := Tryz.prog) w4 24 24 5 w1.heap.size i0 Tryz.underlying24 hi hz0 hz1 hz2 v4 _ hO4 w1.heap.size _ zd ((hId1.drew 1).below hb4) (by have := HL.out; omega) hb4.size; have hb5 := below_app hb4 hO4 hg5 (Nat.le_refl _) hb4.size; dsimp only))
 all_goals go_wp2
 all_goals go_ret2
 all_goals
  have hbW := (below_draw hbox 1).trans (hb5.mono hbox.size)
  exact ⟨_, rfl, (Ow.of_row hO5).mono hbox.size, hbW⟩

set_option maxHeartbeats 1000000 in
theorem rbuild_no (tos id ttl proto src dst : Int) (keep : Bool) (ao ad : Option Addr) (lo co ld cd : Nat) (w : World) (h1 : lo ≤ 140737488355328) (h2 : ld ≤ 140737488355328) (hf : flt lo ld ≠ 0) :
  Calls Tryz.prog 10 #[.agg #[.int .u8 tos, .int .u16 id, .bool keep, .int .u8 ttl, .int .u8 proto, .int .u32 src, .int .u32 dst, .slice ao lo co, .slice ad ld cd]] w fun e w' => e = .returned (.tuple #[.slice none 0 0, .int .i64 (flt lo ld)]) ∧ Below w.heap.size w w' := by
 have hbox : Below w.heap.size w (w.alloc (.cells #[.int .u8 tos, .int .u16 id, .bool keep, .int .u8 ttl, .int .u8 proto, .int .u32 src, .int .u32 dst, .slice ao lo co, .slice ad ld cd] 26)) := (Below.refl _ _).alloc (Nat.le_refl _) _
 by_cases c1 : 40 < lo
 ·have t1 : (40 : Int) < lo := by omega
  have HF : Hid (flt lo ld = 4) := by show _ = _; unfold flt; rw [if_pos (.inl c1)]
  clear hf
  go_enter Tryz.func10, Tryz.ntmps10
  go_wp2
  go_ret2
  exact ⟨by rw [HF.out]; rfl, hbox⟩
 ·have t1 : ¬ (40 : Int) < lo := by omega
  by_cases c2 : lo % 4 = 0
  ·have t2 : ((lo : Int) % 4 != 0) = false := by simp; omega
   have c3 : 65535 < 20 + lo + ld := by
    refine Classical.byContradiction (fun h => hf ?_)
    unfold flt; rw [if_neg (by omega), if_neg (by omega)]
   have t3 : (65535 : Int) < 20 + lo + ld := by omega
   have HF : Hid (flt lo ld = 8) := by show _ = _; unfold flt; rw [if_neg (by omega), if_pos c3]
   clear hf
   go_enter Tryz.func10, Tryz.ntmps10
   go_wp2
   go_ret2
   exact ⟨by rw [HF.out]; rfl, hbox⟩
  ·have t2 : ((lo : Int) % 4 != 0) = true := by simp; omega
   have HF : Hid (flt lo ld = 4) := by show _ = _; unfold flt; rw [if_pos (.inr c2)]
   clear hf
   go_enter Tryz.func10, Tryz.ntmps10
   go_wp2
   go_ret2
   exact ⟨by rw [HF.out]; rfl, hbox⟩
end Go.Proofs.YtghpakfjpdifaaaGreatDoor

/- The walk of MangleInner. -/
namespace Go.Proofs.YtghpakfjpdifaaaGreatDoor
open Go.RowKit Go.Shelf
set_option maxRecDepth 100000
set_option linter.unusedVariables false
set_option linter.unusedSimpArgs false

theorem rbuild2_any (tos id ttl pr src dst : Int) (keep : Bool) (so sd : Value) (zo zd : List Int) (w : World) (hBo : Mt.By zo) (hIo : Rd w.heap.size w so zo) (hId : Rd w.heap.size w sd zd) (h1 : zo.length ≤ 140737488355328) (h2 : zd.length ≤ 140737488355328)
  (ht : 0 ≤ tos ∧ tos ≤ 255) (hid : 0 ≤ id ∧ id ≤ 65535) (htt : 0 ≤ ttl ∧ ttl ≤ 255) (hpr : 0 ≤ pr ∧ pr ≤ 255) (hsr : 0 ≤ src ∧ src ≤ 4294967295) (hds : 0 ≤ dst ∧ dst ≤ 4294967295) :
  Calls Tryz.prog 10 #[.agg #[.int .u8 tos, .int .u16 id, .bool keep, .int .u8 ttl, .int .u8 pr, .int .u32 src, .int .u32 dst, so, sd]] w fun e w' => Later w w' ∧ ∃ x n c, e = .returned (.tuple #[.slice x n c, .int .i64 (flt zo.length zd.length)]) ∧ n ≤ 9223372036854775807 ∧ (flt zo.length zd.length = 0 → n = 20 + zo.length + zd.length ∧ Ow w.heap.size w' (.slice x n c) (pbs tos id keep ttl pr src dst zo zd)) := by
 obtain ⟨ao, co, rfl, _, _⟩ := hIo.slice
 obtain ⟨ad, cd, rfl, _, _⟩ := hId.slice
 by_cases hf : flt zo.length zd.length = 0
 ·obtain ⟨h40, h4, hall⟩ := flt_fit2 hf
  refine (rbuild_yes tos id ttl pr src dst keep _ _ zo zd w hBo hIo hId h40 h4 hall ht hid htt hpr hsr hds).mono ?_
  rintro e w' ⟨v, rfl, hO, hb⟩
  obtain ⟨x, c, rfl, hc1, hc2⟩ := hO.slice
  rw [hf]
  exact ⟨hb, x, _, c, rfl, by omega, fun _ => ⟨by rw [List.length_append, hdr_len], hO⟩⟩
 ·refine (rbuild_no tos id ttl pr src dst keep ao ad zo.length co zd.length cd w h1 h2 hf).mono ?_
  rintro e w' ⟨rfl, hb⟩
  exact ⟨hb, none, 0, 0, rfl, by omega, fun e => absurd e hf⟩

theorem inner_requote (pr s d a b : Int) (so sd : Value) (mz : List Int) (w : World) (hT : Tb w) (hB : Mt.By mz) (hl : mz.length ≤ 60000) (hq : que 1 (icm 3 0 0 mz) = 0) (hp : qpr mz = pr) (hIo : Rd w.heap.size w so []) (hId : Rd w.heap.size w sd (icm 3 0 0 mz)) (hs : 0 ≤ s ∧ s ≤ 4294967295) (hd : 0 ≤ d ∧ d ≤ 4294967295) (ha : 0 ≤ a ∧ a ≤ 65535) (hb : 0 ≤ b ∧ b ≤ 65535) :
  Calls Tryz.prog 5 #[.agg #[.int .u8 0, .int .u16 0, .bool false, .int .u8 7, .int .u8 1, .int .u32 9, .int .u32 8, so, sd], .int .u32 1, .int .u32 2, .agg #[.int .u8 pr, .int .u32 s, .int .u32 d, .int .u16 a, .int .u16 b]] w fun e w' => Later w w' ∧ ∃ a7 c7 a8 n8 c8, e = .returned (.tuple #[.agg #[.int .u8 0, .int .u16 0, .bool false, .int .u8 7, .int .u8 1, .int .u32 1, .int .u32 2, .slice a7 0 c7, .slice a8 n8 c8], .int .i64 0]) ∧ Ow w.heap.size w' (.slice a8 n8 c8) (icm 3 0 0 (rqt (qun mz s d a b) mz)) := by
 refine (requote_any 0 0 7 1 9 8 false so sd [] (icm 3 0 0 mz) 1 2 pr s d a b w hT Mt.By.nil (By_icm _ _ _ _ (by omega) (by omega) (by omega) hB) hIo hId (by simp) (by rw [icm_length]; omega) (by omega) (by omega) (by omega) (by omega) (by omega) hs hd ha hb).mono ?_
 have hz : rqe 1 pr ([] : List Int).length (icm 3 0 0 mz) = 0 := by
  unfold rqe
  rw [hq, icm_drop, hp, if_neg (by simp), if_neg (by simp)]
  unfold flt
  rw [if_neg (by simp), if_neg (by simp; omega)]
 rintro e w' ⟨hb1, ⟨hx, _⟩ | ⟨_, a7, c7, a8, c8, rfl, hO, hD⟩⟩
 ·exact absurd hz hx
 ·rw [icm_0, icm_1, icm_4, icm_drop] at hD
  rw [icm_drop]
  exact ⟨hb1, _, _, _, _, _, rfl, hD⟩
theorem inner_parse (so sd : Value) (R : List Int) (w : World) (hB : Mt.By R) (hl : R.length ≤ 60000) (hId : Rd w.heap.size w sd (icm 3 0 0 R)) :
  Calls Tryz.prog 12 #[.agg #[.int .u8 0, .int .u16 0, .bool false, .int .u8 7, .int .u8 1, .int .u32 1, .int .u32 2, so, sd]] w fun e w' => Later w w' ∧ ∃ a5 n5 c5, e = .returned (.tuple #[.agg #[.int .u8 3, .int .u8 0, .int .u32 0, .slice a5 n5 c5], .int .i64 0]) ∧ Ow w.heap.size w' (.slice a5 n5 c5) R := by
 refine (rparseIcmp_any 0 0 7 1 1 2 false so sd (icm 3 0 0 R) w (By_icm _ _ _ _ (by omega) (by omega) (by omega) hB) hId (by rw [icm_length]; omega)).mono ?_
 have hz := icm_pie 3 0 0 R (by omega) (by omega) (by omega) hB
 rintro e w' ⟨hb1, ⟨hx, _⟩ | ⟨_, a5, c5, rfl, hD⟩⟩
 ·exact absurd hz hx
 ·rw [icm_drop] at hD
  rw [icm_0, icm_1, icm_4]
  exact ⟨hb1, _, _, _, rfl, hD⟩
theorem inner_parse2 (pr s d : Int) (sv : Value) (R x : List Int) (w : World) (hB : Mt.By R) (hl : R.length ≤ 60000) (hI : Rd w.heap.size w sv R) (h0 : rde false R = 0) (h9 : R[9]?.getD 0 = pr) (h12 : wat4 R 12 = s) (h16 : wat4 R 16 = d) (hx : (R.take (ral false R).toNat).drop (hl4 R).toNat = x) :
  Calls Tryz.prog 13 #[sv] w fun e w' => Later w w' ∧ ∃ (y0 y1 : Int) (y2 : Bool) (y3 : Int) (a6 : Option Addr) (n6 c6 : Nat) (a7 : Option Addr) (n7 c7 : Nat) (z6 : List Int), e = .returned (.tuple #[.agg #[.int .u8 y0, .int .u16 y1, .bool y2, .int .u8 y3, .int .u8 pr, .int .u32 s, .int .u32 d, .slice a6 n6 c6, .slice a7 n7 c7], .int .i64 0]) ∧ Ow w.heap.size w' (.slice a6 n6 c6) z6 ∧ Ow w.heap.size w' (.slice a7 n7 c7) x := by
 refine (rparse_any sv R w hB (by omega) hI).mono ?_
 rintro e w' ⟨hb1, ⟨hx, _⟩ | ⟨_, so, sd, rfl, hO, hD⟩⟩
 ·exact absurd h0 hx
 ·obtain ⟨a6, c6, rfl, _, _⟩ := hO.slice
  obtain ⟨a7, c7, rfl, _, _⟩ := hD.slice
  unfold pkt
  rw [h9, h12, h16]
  rw [hx] at hD ⊢
  exact ⟨hb1, _, _, _, _, _, _, _, _, _, _, _, rfl, hO, hD⟩

set_option maxHeartbeats 16000000 in
theorem walk_MangleInner (w : World) (hT : Tb w) (tos id ttl pr src dst : Int) (keep : Bool) (so sd : Value) (zo zd : List Int) (hBo : Mt.By zo) (hBd : Mt.By zd) (hIo : Rd w.heap.size w so zo) (hId : Rd w.heap.size w sd zd) (hlo : zo.length ≤ 140737488355328) (hld : zd.length ≤ 140737488355328)
  (ht : 0 ≤ tos ∧ tos ≤ 255) (hid : 0 ≤ id ∧ id ≤ 65535) (htt : 0 ≤ ttl ∧ ttl ≤ 255) (hpr : 0 ≤ pr ∧ pr ≤ 255) (hsr : 0 ≤ src ∧ src ≤ 4294967295) (hds : 0 ≤ dst ∧ dst ≤ 4294967295)
  (tp s d a b : Int) (htp : 0 ≤ tp ∧ tp ≤ 255) (hs : 0 ≤ s ∧ s ≤ 4294967295) (hd : 0 ≤ d ∧ d ≤ 4294967295) (ha : 0 ≤ a ∧ a ≤ 65535) (hb : 0 ≤ b ∧ b ≤ 65535) (hsm : zd.length ≤ 1048576) :
  Calls Tryz.prog 4 #[.agg #[.int .u8 tos, .int .u16 id, .bool keep, .int .u8 ttl, .int .u8 pr, .int .u32 src, .int .u32 dst, so, sd], .agg #[.int .u8 tp, .int .u32 s, .int .u32 d, .int .u16 a, .int .u16 b]] w fun e w' => e = .returned (.bool true) ∧ Below w.heap.size w w' := by
 obtain ⟨ao, co, rfl, hlo1, hmo1⟩ := hIo.slice
 obtain ⟨ad, cd, rfl, hl1, hm1⟩ := hId.slice
 have hb0 : Below w.heap.size w ((w.alloc (.cells #[.int .u8 tos, .int .u16 id, .bool keep, .int .u8 ttl, .int .u8 pr, .int .u32 src, .int .u32 dst, .slice ao zo.length co, .slice ad zd.length cd] 26)).alloc (.cells #[.int .u8 tp, .int .u32 s, .int .u32 d, .int .u16 a, .int .u16 b] 29)) := ((Below.refl _ _).alloc (Nat.le_refl _) _).alloc (by simp) _
 have p0 : ((w.alloc (.cells #[.int .u8 tos, .int .u16 id, .bool keep, .int .u8 ttl, .int .u8 pr, .int .u32 src, .int .u32 dst, .slice ao zo.length co, .slice ad zd.length cd] 26)).alloc (.cells #[.int .u8 tp, .int .u32 s, .int .u32 d, .int .u16 a, .int .u16 b] 29)).heap[w.heap.size]? = some (.cells #[.int .u8 tos, .int .u16 id, .bool keep, .int .u8 ttl, .int .u8 pr, .int .u32 src, .int .u32 dst, .slice ao zo.length co, .slice ad zd.length cd] 26) := (Below.heap_alloc _ _ _ (by simp)).trans (heap_alloc_new w _)
 have t0 : ((w.alloc (.cells #[.int .u8 tos, .int .u16 id, .bool keep, .int .u8 ttl, .int .u8 pr, .int .u32 src, .int .u32 dst, .slice ao zo.length co, .slice ad zd.length cd] 26)).alloc (.cells #[.int .u8 tp, .int .u32 s, .int .u32 d, .int .u16 a, .int .u16 b] 29)).heap[w.heap.size + 1]? = some (.cells #[.int .u8 tp, .int .u32 s, .int .u32 d, .int .u16 a, .int .u16 b] 29) := by
  have := heap_alloc_new (w.alloc (.cells #[.int .u8 tos, .int .u16 id, .bool keep, .int .u8 ttl, .int .u8 pr, .int .u32 src, .int .u32 dst, .slice ao zo.length co, .slice ad zd.length cd] 26)) (.cells #[.int .u8 tp, .int .u32 s, .int .u32 d, .int .u16 a, .int .u16 b] 29)
  rw [World.size_alloc] at this
  exact this
 have P0 := hide p0
 have T0 := hide t0
 clear p0 t0
 go_enter Tryz.func4, Tryz.ntmps4
 go_upto_region 1 with fail
 generalize (w.alloc _).alloc _ = W0 at *
 have L0 : Later w W0 := hb0
 have kP := block_cell P0.out
 go_wp2_with fail
 refine (rof_any tos id ttl pr src dst keep _ _ zd W0 hBd (hId.later L0) (by omega) hsr hds).mono ?_
 rintro e w1 ⟨hb1, rfl⟩
 have l1 : Later W0 w1 := hb1
 obtain ⟨oe, HO⟩ : ∃ e, Hid (ofe pr src dst zd = e) := ⟨_, rfl⟩
 obtain ⟨xa, hxa⟩ : ∃ e, ofa pr zd = e := ⟨_, rfl⟩
 obtain ⟨xb, hxb⟩ : ∃ e, ofb pr zd = e := ⟨_, rfl⟩
 rw [HO.out, hxa, hxb]
 clear hxa hxb kP
 obtain ⟨q0, q1, q2, q3, q4, hq, hq0⟩ : ∃ q0 q1 q2 q3 q4 : Int, otv oe pr src dst xa xb = .agg #[.int .u8 q0, .int .u32 q1, .int .u32 q2, .int .u16 q3, .int .u16 q4] ∧ (oe = 0 → q0 = pr) := by
  by_cases h : oe = 0
  ·subst h; exact ⟨_, _, _, _, _, otv_ok .., fun _ => rfl⟩
  ·exact ⟨_, _, _, _, _, otv_no h .., fun e => absurd e h⟩
 rw [hq]
 have HQ0 := hide hq0
 clear hq hq0
 have la2 := later_alloc' w1 (.cells #[.int .u8 q0, .int .u32 q1, .int .u32 q2, .int .u16 q3, .int .u16 q4] 29)
 have S2 := hide (heap_alloc_new w1 (.cells #[.int .u8 q0, .int .u32 q1, .int .u32 q2, .int .u16 q3, .int .u16 q4] 29))
 have m2 := l1.trans la2
 have P2 := hide (later_keep m2 P0.out)
 have T2 := hide (later_keep m2 T0.out)
 have L2 := L0.trans m2
 clear P0 T0 m2 la2 l1 hb1 L0 hb0
 go_upto_region 2 with fail
 generalize w1.alloc _ = w2 at *
 generalize w1.heap.size = go at *
 have kP := block_cell P2.out
 have HBD := hide (rbuild2_any tos id ttl pr src dst keep (.slice ao zo.length co) (.slice ad zd.length cd) zo zd w2 hBo (hIo.later L2) (hId.later L2) hlo hld ht hid htt hpr hsr hds)
 obtain ⟨fl, HFL⟩ : ∃ f, Hid (flt zo.length zd.length = f) := ⟨_, rfl⟩
 rw [HFL.out] at HBD
 go_wp2_with fail
 refine HBD.out.mono ?_
 rintro e w3 ⟨l3, xv, nv, cv, rfl, hnv, hyes⟩
 have HY := hide hyes
 have P3 := hide (later_keep l3 P2.out)
 have T3 := hide (later_keep l3 T2.out)
 have S3 := hide (later_keep l3 S2.out)
 have L3 := L2.trans l3
 clear kP HBD hyes P2 T2 S2 L2
 go_upto_region 3 with fail
 by_cases cA : oe = 0
 case neg =>
  have tA : (oe != 0) = true := by simp [cA]
  clear cA
  go_wp2_with fail; refine (live10_any w3 (hT.below L3 hT.pos)).mono ?_; rintro e w9 ⟨rfl, l9⟩; go_wp2_with fail; go_ret; exact ⟨rfl, Later.trans L3 l9⟩
 subst cA
 by_cases cB : fl = 0
 case neg =>
  have tB : (fl != 0) = true := by simp [cB]
  clear cB
  go_wp2_with fail; refine (live10_any w3 (hT.below L3 hT.pos)).mono ?_; rintro e w9 ⟨rfl, l9⟩; go_wp2_with fail; go_ret; exact ⟨rfl, Later.trans L3 l9⟩
 subst cB
 obtain ⟨hn, hOv⟩ := HY.out rfl
 obtain rfl := HQ0.out rfl
 have HOV := hide hOv
 clear HY HQ0 hOv
 have HN := hide hn
 clear hn
 by_cases cC : 60000 < nv
 case pos =>
  have tC : (60000 : Int) < (nv : Int) := by omega
  clear cC
  go_wp2_with fail; refine (live10_any w3 (hT.below L3 hT.pos)).mono ?_; rintro e w9 ⟨rfl, l9⟩; go_wp2_with fail; go_ret; exact ⟨rfl, Later.trans L3 l9⟩
 have tC : ¬ (60000 : Int) < (nv : Int) := by omega
 have kT := block_cell T3.out
 have kS := block_cell S3.out
 by_cases cD : tp = q0
 case neg =>
  have tD : (tp != q0) = true := by simp [cD]
  clear cD
  go_wp2_with fail; refine (live10_any w3 (hT.below L3 hT.pos)).mono ?_; rintro e w9 ⟨rfl, l9⟩; go_wp2_with fail; go_ret; exact ⟨rfl, Later.trans L3 l9⟩
 subst cD
 have tD : (tp != tp) = false := by simp
 by_cases cE : tp = 1 ∧ a = 0
 case pos =>
  obtain ⟨rfl, rfl⟩ := cE
  go_wp2_with fail; refine (live10_any w3 (hT.below L3 hT.pos)).mono ?_; rintro e w9 ⟨rfl, l9⟩; go_wp2_with fail; go_ret; exact ⟨rfl, Later.trans L3 l9⟩
 have HE : Hid (tp = 1 → a ≠ 0) := fun h1 h2 => cE ⟨h1, h2⟩
 clear cE
 by_cases cF : tp = 1
 case' pos =>
  have tE : (tp == 1) = true := by simp [cF]
  have tF : (a == 0) = false := by have := HE.out cF; simp [this]
  clear cF
  go_upto_region 5 with fail
  clear tE tF
 case' neg =>
  have tE : (tp == 1) = false := by simp [cF]
  clear cF
  go_upto_region 5 with fail
  clear tE
 all_goals
  clear kT kS tC tD
  obtain ⟨hBm, hlm, hque, hqpr, hqun, hR⟩ := inner_math tos id keep ttl tp src dst zo zd s d a b hBo hBd HFL.out ht hid htt hpr hsr hds hs hd ha hb HO.out
  have hf3 := (flt_fit2 HFL.out).2.2
  have hqa := qia_bd (pr := tp) hBd
  have hqb := qib_bd (pr := tp) hBd
  obtain ⟨os, m1, m2, m3, m4, m5, m6⟩ := sm_any (u := ⟨tp, src, dst, qia tp zd, qib tp zd, tp, s, d, a, b⟩) (pok_of HO.out) hBd (by omega) HO.out ⟨hs, hd, ha, hb⟩ ⟨hsr, hds, hqa, hqb⟩ rfl rfl rfl rfl HE.out
  have hos : tp = 6 → opts (hop zd) = some os := fun e => (m6 e).1
  have HRR := hide (fun V (l : Later w V) => rrw_any tp tos id ttl src dst keep (.slice ao zo.length co) (.slice ad zd.length cd) zo zd s d a b os V hBo hBd (hIo.later l) (hId.later l) HFL.out hsr hds hs hd ha hb HO.out (pok_of HO.out) hos)
  have hnl : nv = 20 + zo.length + zd.length := HN.out
  generalize pbs tos id keep ttl tp src dst zo zd = mz at *
  obtain ⟨R, hRe⟩ : ∃ R, R = rqt (qun mz s d a b) mz := ⟨_, rfl⟩
  obtain ⟨r1, r2, r3, r4, r5, r6, r7⟩ := hR R hRe
  have hxl : (qsD tp ⟨tp, src, dst, qia tp zd, qib tp zd, tp, s, d, a, b⟩ zd).length = zd.length := qsD_length _ _ _
  have hBx : Mt.By (qsD tp ⟨tp, src, dst, qia tp zd, qib tp zd, tp, s, d, a, b⟩ zd) := qsD_by hBd ⟨hs, hd, ha, hb⟩
  simp only at m1 m2 m3 m4 m5
  generalize qsD tp ⟨tp, src, dst, qia tp zd, qib tp zd, tp, s, d, a, b⟩ zd = x at *
  generalize rwR tp s d a b os zd = z at *
  have HM1 := hide m1
  have HM2 := hide m2
  have HM3 := hide m3
  have HM4 := hide m4
  have HM5 := hide m5
  have HXL := hide hxl
  have HBX := hide hBx
  have HBM := hide hBm
  have hml : mz.length ≤ 60000 := by omega
  have hrl : R.length ≤ 60000 := by omega
  have HML := hide hml
  have HRQ := hide (fun V (h1 : Tb V) (so2 sd2 : Value) (h2 : Rd V.heap.size V so2 []) (h3 : Rd V.heap.size V sd2 (icm 3 0 0 mz)) => inner_requote tp s d a b so2 sd2 mz V h1 hBm hml hque hqpr h2 h3 hs hd ha hb)
  rw [← hRe] at HRQ
  have HPI := hide (fun V (so2 sd2 : Value) (h3 : Rd V.heap.size V sd2 (icm 3 0 0 R)) => inner_parse so2 sd2 R V r1 hrl h3)
  have HPP := hide (fun V (sv : Value) (h3 : Rd V.heap.size V sv R) => inner_parse2 tp s d sv R x V r1 hrl h3 r3 r4 r5 r6 r7)
  have HFT : Hid (flt ([] : List Int).length (8 + mz.length) = 0) := by
   show _ = _
   unfold flt
   rw [if_neg (by simp), if_neg (by simp; omega)]
  have HIc := hide (rbuildIcmp_any 0 0 7 0 9 8 3 0 0 false (.slice none 0 0) (.slice xv nv cv) none 0 0 [] mz w3 (rd_zero w3) hBm HOV.out.rd (by simp) (by omega) (by omega) (by omega) (by omega))
  rw [HFT.out] at HIc
  simp only [List.length_nil] at HIc
  obtain ⟨n4, HN4⟩ : ∃ n, Hid (8 + mz.length = n) := ⟨_, rfl⟩
  rw [HN4.out] at HIc
  clear m1 m2 m3 m4 m5 m6 hxl hBx hBm hml hrl hlm hque hqpr hqun hR r1 r2 r3 r4 r5 r6 r7 hnl hf3 hqa hqb hos hRe HE HN HFT HN4
  go_wp2_with fail
  refine HIc.out.mono ?_
  rintro e w4 ⟨l4, ⟨hf, _⟩ | ⟨_, a7, c7, a8, c8, rfl, hO4, hD4⟩⟩
  ·exact absurd rfl hf
  have l4' : Later w3 w4 := l4
  have la5 := later_alloc' w4 (.cells #[.int .u8 0, .int .u16 0, .bool false, .int .u8 7, .int .u8 1, .int .u32 9, .int .u32 8, .slice a7 0 c7, .slice a8 n4 c8] 26)
  have Q5 := hide (heap_alloc_new w4 (.cells #[.int .u8 0, .int .u16 0, .bool false, .int .u8 7, .int .u8 1, .int .u32 9, .int .u32 8, .slice a7 0 c7, .slice a8 n4 c8] 26))
  have m5 := l4'.trans la5
  have P5 := hide (later_keep m5 P3.out)
  have T5 := hide (later_keep m5 T3.out)
  have L5 := L3.trans m5
  have O5 := hide (hO4.later la5)
  have D5 := hide (hD4.later la5)
  clear HIc hO4 hD4 P3 T3 S3 L3 m5 la5 l4 l4' HOV
  go_upto_region 6 with fail
  generalize w4.alloc _ = w5 at *
  generalize w4.heap.size = g5 at *
  have kQ := block_cell Q5.out
  have kT := block_cell T5.out
  go_wp2_with fail
  refine (HRQ.out w5 (hT.below L5 hT.pos) _ _ O5.out.rd D5.out.rd).mono ?_
  rintro e w6 ⟨l6, b7, e7, b8, n8, e8, rfl, hD6⟩
  have la7 := later_alloc' w6 (.cells #[.int .u8 0, .int .u16 0, .bool false, .int .u8 7, .int .u8 1, .int .u32 1, .int .u32 2, .slice b7 0 e7, .slice b8 n8 e8] 26)
  have Q7 := hide (heap_alloc_new w6 (.cells #[.int .u8 0, .int .u16 0, .bool false, .int .u8 7, .int .u8 1, .int .u32 1, .int .u32 2, .slice b7 0 e7, .slice b8 n8 e8] 26))
  have m7 := l6.trans la7
  have P7 := hide (later_keep m7 P5.out)
  have T7 := hide (later_keep m7 T5.out)
  have L7 := L5.trans m7
  have D7 := hide (hD6.later la7)
  clear kQ kT HRQ hD6 P5 T5 Q5 L5 m7 la7 l6 O5 D5
  go_upto_region 9 with fail
  generalize w6.alloc _ = w7 at *
  generalize w6.heap.size = g7 at *
  have kQ := block_cell Q7.out
  go_wp2_with fail
  refine (HPI.out w7 _ _ D7.out.rd).mono ?_
  rintro e w8 ⟨l8, a5, n5, c5, rfl, hD8⟩
  have la9 := later_alloc' w8 (.cells #[.int .u8 3, .int .u8 0, .int .u32 0, .slice a5 n5 c5] 42)
  have M9 := hide (heap_alloc_new w8 (.cells #[.int .u8 3, .int .u8 0, .int .u32 0, .slice a5 n5 c5] 42))
  have m9 := l8.trans la9
  have P9 := hide (later_keep m9 P7.out)
  have T9 := hide (later_keep m9 T7.out)
  have L9 := L7.trans m9
  have D9 := hide (hD8.later la9)
  clear kQ HPI hD8 P7 T7 Q7 L7 m9 la9 l8 D7
  go_upto_region 10 with fail
  generalize w8.alloc _ = w9 at *
  generalize w8.heap.size = g9 at *
  have kM := block_cell M9.out
  go_wp2_with fail
  refine (HPP.out w9 _ D9.out.rd).mono ?_
  rintro e w10 ⟨l10, y0, y1, y2, y3, a6, n6, c6, f7, k7, g77, z6, rfl, hO10, hD10⟩
  have la11 := later_alloc' w10 (.cells #[.int .u8 y0, .int .u16 y1, .bool y2, .int .u8 y3, .int .u8 tp, .int .u32 s, .int .u32 d, .slice a6 n6 c6, .slice f7 k7 g77] 26)
  have X11 := hide (heap_alloc_new w10 (.cells #[.int .u8 y0, .int .u16 y1, .bool y2, .int .u8 y3, .int .u8 tp, .int .u32 s, .int .u32 d, .slice a6 n6 c6, .slice f7 k7 g77] 26))
  have m11 := l10.trans la11
  have P11 := hide (later_keep m11 P9.out)
  have T11 := hide (later_keep m11 T9.out)
  have L11 := L9.trans m11
  have O11 := hide (hO10.later la11)
  have D11 := hide (hD10.later la11)
  clear kM HPP hO10 hD10 P9 T9 M9 L9 m11 la11 l10 D9
  go_upto_region 11 with fail
  generalize w10.alloc _ = w11 at *
  generalize w10.heap.size = g11 at *
  have kP := block_cell P11.out
  have kT := block_cell T11.out
  go_wp2_with fail
  refine (HRR.out w11 L11).mono ?_
  rintro e w12 ⟨l12, h7, i7, h8, j8, i8, rfl, hO12, hD12⟩
  have la13 := later_alloc' w12 (.cells #[.int .u8 tos, .int .u16 id, .bool keep, .int .u8 ttl, .int .u8 tp, .int .u32 s, .int .u32 d, .slice h7 zo.length i7, .slice h8 j8 i8] 26)
  have Y13 := hide (heap_alloc_new w12 (.cells #[.int .u8 tos, .int .u16 id, .bool keep, .int .u8 ttl, .int .u8 tp, .int .u32 s, .int .u32 d, .slice h7 zo.length i7, .slice h8 j8 i8] 26))
  have m13 := l12.trans la13
  have X13 := hide (later_keep m13 X11.out)
  have L13 := L11.trans m13
  have O13 := hide (O11.out.later m13)
  have D13 := hide (D11.out.later m13)
  have OW13 := hide (hO12.later la13)
  have DW13 := hide (hD12.later la13)
  clear kP kT HRR hO12 hD12 P11 T11 X11 L11 m13 la13 l12 O11 D11
  go_upto_region 12 with fail
  generalize w12.alloc _ = w13 at *
  generalize w12.heap.size = g13 at *
  go_wp2_with fail
  refine (live10_any w13 (hT.below L13 hT.pos)).mono ?_
  rintro e w14 ⟨rfl, l14⟩
  have kX := block_cell (later_keep l14 X13.out)
  have kY := block_cell (later_keep l14 Y13.out)
  have HAL := hide (alike_any y0 y1 y3 tos id ttl tp s d y2 keep _ _ _ _ z6 zo x z w14 (O13.out.later l14).rd (OW13.out.later l14).rd HBX.out HM4.out (D13.out.later l14).rd (DW13.out.later l14).rd (by have := HXL.out; omega) (by have := HM5.out; omega) hs hd HM1.out HM2.out HM3.out)
  go_wp2_with fail
  refine HAL.out.mono ?_
  rintro e w15 ⟨rfl, l15⟩
  go_wp2_with fail
  go_ret
  exact ⟨rfl, L13.trans (l14.trans l15)⟩
end Go.Proofs.YtghpakfjpdifaaaGreatDoor
