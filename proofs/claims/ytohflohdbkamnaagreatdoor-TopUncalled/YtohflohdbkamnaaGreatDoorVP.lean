/- Package ipv4's reader: how it refuses, and what it measures. -/
import Derived.Defers
import Derived.Recover
import Derived.Laws.Pointers
import Derived.Test.YtohflohdbkamnaaGreatDoorV3
import Derived.Test.YtohflohdbkamnaaGreatDoorRg
namespace Go.Proofs.YtohflohdbkamnaaGreatDoor
open Go.RowKit Go.Shelf
set_option maxRecDepth 100000
set_option linter.unusedVariables false
set_option linter.unusedSimpArgs false

/-- What the reader gives up with. -/
abbrev rfs (c : Int) : Value := .iface 232 (.agg #[.int .i64 c])
abbrev rfp (c : Int) : List PanicEntry := [{ v := rfs c, recovered := false }]

theorem refuse_no (c : Int) (w : World) :
    Calls Tryz.prog 123 #[.bool false, .int .i64 c] w fun e w' => e = .returned (.tuple #[]) ∧ w = w' := by
  go_enter Tryz.func123, Tryz.ntmps123
  go_wp2
  go_end0
  exact ⟨rfl, rfl⟩

theorem refuse_yes (c : Int) (w : World) :
    Calls Tryz.prog 123 #[.bool true, .int .i64 c] w fun e w' => e = .panicked (rfp c) ∧ w = w' := by
  go_enter Tryz.func123, Tryz.ntmps123
  go_wp2
  exact ⟨rfl, rfl, rfl⟩

/-- How long a header says that it is; what is wrong with the sizes. -/
def hl4 (zs : List Int) : Int := zs[0]?.getD 0 % 16 * 4
def msr (zs : List Int) : Int :=
  if zs.length < 20 then 3 else if zs[0]?.getD 0 / 16 ≠ 4 then 6 else if hl4 zs < 20 then 4 else if (zs.length : Int) < hl4 zs then 3 else if wat zs 2 < hl4 zs then 4 else 0
theorem and15 (x : Int) (h : 0 ≤ x ∧ x ≤ 255) : bits .and .u8 x 15 = x % 16 := by
  rw [u8_and x 15 h.1 (by omega) (by omega) (by omega)]
  have : x.toNat &&& (15 : Int).toNat = x.toNat % 16 := Nat.and_two_pow_sub_one_eq_mod x.toNat 4
  omega
theorem hl4_bd {zs : List Int} (h : Mt.By zs) : 0 ≤ hl4 zs ∧ hl4 zs ≤ 60 := by have := h.at 0; unfold hl4; omega

set_option maxHeartbeats 2000000 in
theorem measure_any (n₀ rb : Nat) (x y : Int) (sv : Value) (zs : List Int) (w : World) (hB : Mt.By zs) (hl : zs.length ≤ 225000000000000) (hI : Rd n₀ w sv zs) (hn : n₀ ≤ rb)
    (c0 : w.cell? ⟨rb, 0, none⟩ = some (.int .i64 x)) (c1 : w.cell? ⟨rb, 1, none⟩ = some (.int .i64 y)) (c2 : w.cell? ⟨rb, 2, none⟩ = some sv) (f0 : w.frozen? ⟨rb, 0, none⟩ = false) (f1 : w.frozen? ⟨rb, 1, none⟩ = false) :
    Calls Tryz.prog 122 #[.pointer (some ⟨rb, 0, none⟩)] w fun e w' => Below rb w w' ∧
      ((msr zs ≠ 0 ∧ e = .panicked (rfp (msr zs))) ∨ (msr zs = 0 ∧ e = .returned (.tuple #[]) ∧ w'.cell? ⟨rb, 0, none⟩ = some (.int .i64 (hl4 zs)) ∧ w'.cell? ⟨rb, 1, none⟩ = some (.int .i64 (wat zs 2)) ∧ w'.cell? ⟨rb, 2, none⟩ = some sv ∧ w'.frozen? ⟨rb, 1, none⟩ = false)) := by
  obtain ⟨a, cap, rfl, hl1, hm1⟩ := hI.slice
  have hrb : rb ≤ w.heap.size := Nat.le_of_lt (World.block_lt_of_cell? w ⟨rb, 0, none⟩ c0)
  have HM : Hid (msr zs = if zs.length < 20 then 3 else if zs[0]?.getD 0 / 16 ≠ 4 then 6 else if hl4 zs < 20 then 4 else if (zs.length : Int) < hl4 zs then 3 else if wat zs 2 < hl4 zs then 4 else 0) := rfl
  generalize msr zs = m at *
  go_enter Tryz.func122, Tryz.ntmps122
  go_wp2_with fail
  by_cases h1 : zs.length < 20
  · rw [show decide ((zs.length : Int) < 20) = true from by simp; omega]
    refine (refuse_yes 3 _).mono ?_
    rintro e w' ⟨rfl, rfl⟩
    have := HM.out
    rw [if_pos h1] at this
    subst this
    exact ⟨rfl, Below.refl _ _, .inl ⟨by omega, rfl⟩⟩
  rw [show decide ((zs.length : Int) < 20) = false from by simp; omega]
  refine (refuse_no 3 _).mono ?_
  rintro e w' ⟨rfl, rfl⟩
  obtain ⟨b, off, cap', e', _, _, hb, hc⟩ := hI.cells (by omega)
  cases e'
  have d0 := hc 0 (by omega)
  have b0 := hB.at 0
  have hlz : (0 : Int) < zs.length := by omega
  rw [Nat.add_zero] at d0
  go_wp2_with fail
  by_cases h2 : zs[0]?.getD 0 / 16 ≠ 4
  · rw [show (zs[0]?.getD 0 / 16 != 4) = true from by simpa using h2]
    refine (refuse_yes 6 _).mono ?_
    rintro e w' ⟨rfl, rfl⟩
    have := HM.out
    rw [if_neg h1, if_pos h2] at this
    subst this
    exact ⟨rfl, Below.refl _ _, .inl ⟨by omega, rfl⟩⟩
  rw [show (zs[0]?.getD 0 / 16 != 4) = false from by simpa using h2]
  refine (refuse_no 6 _).mono ?_
  rintro e w' ⟨rfl, rfl⟩
  have hand : bits .and .u8 (zs[0]?.getD 0) 15 = zs[0]?.getD 0 % 16 := and15 _ b0
  have HH : Hid (hl4 zs = zs[0]?.getD 0 % 16 * 4) := rfl
  have hh := hl4_bd hB
  have hk1 : Below rb w (w.setCell ⟨rb, 0, none⟩ (.int .i64 (zs[0]?.getD 0 % 16 * 4))) := (Below.refl _ _).setCell (p := ⟨rb, 0, none⟩) (Nat.le_refl _) _
  have k0 : (w.setCell ⟨rb, 0, none⟩ (.int .i64 (zs[0]?.getD 0 % 16 * 4))).cell? ⟨rb, 0, none⟩ = some (.int .i64 (zs[0]?.getD 0 % 16 * 4)) := World.cell?_setCell_same _ _ _ c0
  have k1 : (w.setCell ⟨rb, 0, none⟩ (.int .i64 (zs[0]?.getD 0 % 16 * 4))).cell? ⟨rb, 1, none⟩ = some (.int .i64 y) := (World.cell?_setCell_other _ _ _ _ (by simp)).trans c1
  have k2 : (w.setCell ⟨rb, 0, none⟩ (.int .i64 (zs[0]?.getD 0 % 16 * 4))).cell? ⟨rb, 2, none⟩ = some (.slice (some ⟨b, off, none⟩) zs.length cap) := (World.cell?_setCell_other _ _ _ _ (by simp)).trans c2
  have g1 : (w.setCell ⟨rb, 0, none⟩ (.int .i64 (zs[0]?.getD 0 % 16 * 4))).frozen? ⟨rb, 1, none⟩ = false := by simpa using f1
  go_wp2_with fail
  rw [← HH.out] at *
  generalize w.setCell ⟨rb, 0, none⟩ (.int .i64 (hl4 zs)) = W1 at *
  refine (get16_rd _ zs hB 2 (by omega) W1 (hI.below (hk1.mono hn))).mono ?_
  rintro e w2 ⟨rfl, q, rfl⟩
  have hw2 := wat_bd hB 2
  generalize hnn : wat zs 2 = nn at *
  have HN := hide hnn
  clear hnn
  have hk2 : Below rb w ((W1.drewN q).setCell ⟨rb, 1, none⟩ (.int .i64 nn)) := (below_draw hk1 q).setCell (p := ⟨rb, 1, none⟩) (Nat.le_refl _) _
  have l0 : ((W1.drewN q).setCell ⟨rb, 1, none⟩ (.int .i64 nn)).cell? ⟨rb, 0, none⟩ = some (.int .i64 (hl4 zs)) := (World.cell?_setCell_other _ _ _ _ (by simp)).trans k0
  have l1 : ((W1.drewN q).setCell ⟨rb, 1, none⟩ (.int .i64 nn)).cell? ⟨rb, 1, none⟩ = some (.int .i64 nn) := World.cell?_setCell_same _ _ _ (show (W1.drewN q).cell? ⟨rb, 1, none⟩ = some _ from k1)
  have l2 : ((W1.drewN q).setCell ⟨rb, 1, none⟩ (.int .i64 nn)).cell? ⟨rb, 2, none⟩ = some (.slice (some ⟨b, off, none⟩) zs.length cap) := (World.cell?_setCell_other _ _ _ _ (by simp)).trans k2
  have m1 : ((W1.drewN q).setCell ⟨rb, 1, none⟩ (.int .i64 nn)).frozen? ⟨rb, 1, none⟩ = false := by rw [World.frozen?_setCell]; exact g1
  go_wp2_with fail
  generalize (W1.drewN q).setCell ⟨rb, 1, none⟩ (.int .i64 nn) = W2 at *
  clear k0 k1 k2 g1 hk1 c0 c1 c2 f0 f1 d0 hand
  by_cases h3 : hl4 zs < 20
  · rw [show decide (hl4 zs < 20) = true from by simpa using h3]
    refine (refuse_yes 4 _).mono ?_
    rintro e w' ⟨rfl, rfl⟩
    have := HM.out
    rw [if_neg h1, if_neg h2, if_pos h3] at this
    subst this
    exact ⟨rfl, hk2, .inl ⟨by omega, rfl⟩⟩
  rw [show decide (hl4 zs < 20) = false from by simpa using h3]
  refine (refuse_no 4 _).mono ?_
  rintro e w' ⟨rfl, rfl⟩
  go_wp2_with fail
  refine anyR_begin Later.pre Later.drew 12 rfl (by kernel_rfl) (fun W4 hL4 => ?_)
  have q0 : ∀ w1, Later W4 w1 → w1.cell? ⟨rb, 0, none⟩ = some (.int .i64 (hl4 zs)) := fun w1 h => (hL4.trans h).cell l0
  have q2 : ∀ w1, Later W4 w1 → w1.cell? ⟨rb, 2, none⟩ = some (.slice (some ⟨b, off, none⟩) zs.length cap) := fun w1 h => (hL4.trans h).cell l2
  refine anyR_val Later.pre 0 rfl (by kernel_rfl) (by kernel_rfl) (by kernel_rfl) (fun _ _ _ _ h => h) rfl ?_; apply Exists.intro; refine ⟨fun w1 hw1 => ?_, ?_⟩; (· (go_simp; rfl)); simp only [Act.put, List.setIfInBounds_toArray, List.set_cons_zero, List.set_cons_succ]
  refine anyR_val Later.pre 1 rfl (by kernel_rfl) (by kernel_rfl) (by kernel_rfl) (fun _ _ _ _ h => h) rfl ?_; apply Exists.intro; refine ⟨fun w1 hw1 => ?_, ?_⟩; (· (go_simp; rfl)); simp only [Act.put, List.setIfInBounds_toArray, List.set_cons_zero, List.set_cons_succ]
  refine anyR_val Later.pre 2 rfl (by kernel_rfl) (by kernel_rfl) (by kernel_rfl) (fun _ _ _ _ h => h) rfl ?_; apply Exists.intro; refine ⟨fun w1 hw1 => ?_, ?_⟩; (· (go_simp; rfl)); simp only [Act.put, List.setIfInBounds_toArray, List.set_cons_zero, List.set_cons_succ]
  refine anyR_val Later.pre 3 rfl (by kernel_rfl) (by kernel_rfl) (by kernel_rfl) (fun _ _ _ _ h => h) rfl ?_; apply Exists.intro; refine ⟨fun w1 hw1 => ?_, ?_⟩; (· (go_simp; rfl)); simp only [Act.put, List.setIfInBounds_toArray, List.set_cons_zero, List.set_cons_succ]
  refine anyR_val Later.pre 4 rfl (by kernel_rfl) (by kernel_rfl) (by kernel_rfl) (fun _ _ _ _ h => h) rfl ?_; apply Exists.intro; refine ⟨fun w1 hw1 => ?_, ?_⟩; (· (go_simp; rfl)); simp only [Act.put, List.setIfInBounds_toArray, List.set_cons_zero, List.set_cons_succ]
  refine anyR_val Later.pre 5 rfl (by kernel_rfl) (by kernel_rfl) (by kernel_rfl) (fun _ _ _ _ h => h) rfl ?_; apply Exists.intro; refine ⟨fun w1 hw1 => ?_, ?_⟩; (· (go_simp; rfl)); simp only [Act.put, List.setIfInBounds_toArray, List.set_cons_zero, List.set_cons_succ]
  refine anyR_val Later.pre 6 rfl (by kernel_rfl) (by kernel_rfl) (by kernel_rfl) (fun _ _ _ _ h => h) rfl ?_; apply Exists.intro; refine ⟨fun w1 hw1 => ?_, ?_⟩; (· (go_simp; rfl)); simp only [Act.put, List.setIfInBounds_toArray, List.set_cons_zero, List.set_cons_succ]
  refine anyR_val Later.pre 7 rfl (by kernel_rfl) (by kernel_rfl) (by kernel_rfl) (fun _ _ _ _ h => h) rfl ?_; apply Exists.intro; refine ⟨fun w1 hw1 => ?_, ?_⟩; (· (go_simp; rfl)); simp only [Act.put, List.setIfInBounds_toArray, List.set_cons_zero, List.set_cons_succ]
  refine anyR_val Later.pre 8 rfl (by kernel_rfl) (by kernel_rfl) (by kernel_rfl) (fun _ _ _ _ h => h) rfl ?_; apply Exists.intro; refine ⟨fun w1 hw1 => ?_, ?_⟩; (· (go_simp; rfl)); simp only [Act.put, List.setIfInBounds_toArray, List.set_cons_zero, List.set_cons_succ]
  refine anyR_val Later.pre 9 rfl (by kernel_rfl) (by kernel_rfl) (by kernel_rfl) (fun _ _ _ _ h => h) rfl ?_; apply Exists.intro; refine ⟨fun w1 hw1 => ?_, ?_⟩; (· (go_simp; rfl)); simp only [Act.put, List.setIfInBounds_toArray, List.set_cons_zero, List.set_cons_succ]
  refine anyR_val Later.pre 10 rfl (by kernel_rfl) (by kernel_rfl) (by kernel_rfl) (fun _ _ _ _ h => h) rfl ?_; apply Exists.intro; refine ⟨fun w1 hw1 => ?_, ?_⟩; (· (go_simp; rfl)); simp only [Act.put, List.setIfInBounds_toArray, List.set_cons_zero, List.set_cons_succ]
  refine anyR_one 11 rfl (by kernel_rfl) rfl (fun W5 hL5 => ?_)
  have hk5 : Below rb w W5 := Later.below hk2 hrb (hL4.trans hL5)
  by_cases h4 : (zs.length : Int) < hl4 zs
  · refine wp_enter 123 #[.bool true, .int .i64 3] (by go_simp) ((refuse_yes 3 _).mono ?_)
    rintro e w' ⟨rfl, rfl⟩
    have := HM.out
    rw [if_neg h1, if_neg h2, if_neg (by omega), if_pos h4] at this
    subst this
    exact ⟨rfl, hk5, .inl ⟨by omega, rfl⟩⟩
  refine wp_enter 123 #[.bool false, .int .i64 3] (by go_simp) ((refuse_no 3 _).mono ?_)
  rintro e w' ⟨rfl, rfl⟩
  refine ⟨Later.refl _, anyR_done (by kernel_rfl) (fun W6 hL6 => ?_)⟩
  simp only [Act.put, List.setIfInBounds_toArray, List.set_cons_zero, List.set_cons_succ]
  have hL7 := (hL4.trans hL5).trans hL6
  clear q0 q2
  go_wp2_with fail
  refine anyR_begin Later.pre Later.drew 12 rfl (by kernel_rfl) (fun W8 hL8 => ?_)
  have q0 : ∀ w1, Later W8 w1 → w1.cell? ⟨rb, 0, none⟩ = some (.int .i64 (hl4 zs)) := fun w1 h => ((hL7.trans hL8).trans h).cell l0
  have q2 : ∀ w1, Later W8 w1 → w1.cell? ⟨rb, 1, none⟩ = some (.int .i64 nn) := fun w1 h => ((hL7.trans hL8).trans h).cell l1
  refine anyR_val Later.pre 0 rfl (by kernel_rfl) (by kernel_rfl) (by kernel_rfl) (fun _ _ _ _ h => h) rfl ?_; apply Exists.intro; refine ⟨fun w1 hw1 => ?_, ?_⟩; (· (go_simp; rfl)); simp only [Act.put, List.setIfInBounds_toArray, List.set_cons_zero, List.set_cons_succ]
  refine anyR_val Later.pre 1 rfl (by kernel_rfl) (by kernel_rfl) (by kernel_rfl) (fun _ _ _ _ h => h) rfl ?_; apply Exists.intro; refine ⟨fun w1 hw1 => ?_, ?_⟩; (· (go_simp; rfl)); simp only [Act.put, List.setIfInBounds_toArray, List.set_cons_zero, List.set_cons_succ]
  refine anyR_val Later.pre 2 rfl (by kernel_rfl) (by kernel_rfl) (by kernel_rfl) (fun _ _ _ _ h => h) rfl ?_; apply Exists.intro; refine ⟨fun w1 hw1 => ?_, ?_⟩; (· (go_simp; rfl)); simp only [Act.put, List.setIfInBounds_toArray, List.set_cons_zero, List.set_cons_succ]
  refine anyR_val Later.pre 3 rfl (by kernel_rfl) (by kernel_rfl) (by kernel_rfl) (fun _ _ _ _ h => h) rfl ?_; apply Exists.intro; refine ⟨fun w1 hw1 => ?_, ?_⟩; (· (go_simp; rfl)); simp only [Act.put, List.setIfInBounds_toArray, List.set_cons_zero, List.set_cons_succ]
  refine anyR_val Later.pre 4 rfl (by kernel_rfl) (by kernel_rfl) (by kernel_rfl) (fun _ _ _ _ h => h) rfl ?_; apply Exists.intro; refine ⟨fun w1 hw1 => ?_, ?_⟩; (· (go_simp; rfl)); simp only [Act.put, List.setIfInBounds_toArray, List.set_cons_zero, List.set_cons_succ]
  refine anyR_val Later.pre 5 rfl (by kernel_rfl) (by kernel_rfl) (by kernel_rfl) (fun _ _ _ _ h => h) rfl ?_; apply Exists.intro; refine ⟨fun w1 hw1 => ?_, ?_⟩; (· (go_simp; rfl)); simp only [Act.put, List.setIfInBounds_toArray, List.set_cons_zero, List.set_cons_succ]
  refine anyR_val Later.pre 6 rfl (by kernel_rfl) (by kernel_rfl) (by kernel_rfl) (fun _ _ _ _ h => h) rfl ?_; apply Exists.intro; refine ⟨fun w1 hw1 => ?_, ?_⟩; (· (go_simp; rfl)); simp only [Act.put, List.setIfInBounds_toArray, List.set_cons_zero, List.set_cons_succ]
  refine anyR_val Later.pre 7 rfl (by kernel_rfl) (by kernel_rfl) (by kernel_rfl) (fun _ _ _ _ h => h) rfl ?_; apply Exists.intro; refine ⟨fun w1 hw1 => ?_, ?_⟩; (· (go_simp; rfl)); simp only [Act.put, List.setIfInBounds_toArray, List.set_cons_zero, List.set_cons_succ]
  refine anyR_val Later.pre 8 rfl (by kernel_rfl) (by kernel_rfl) (by kernel_rfl) (fun _ _ _ _ h => h) rfl ?_; apply Exists.intro; refine ⟨fun w1 hw1 => ?_, ?_⟩; (· (go_simp; rfl)); simp only [Act.put, List.setIfInBounds_toArray, List.set_cons_zero, List.set_cons_succ]
  refine anyR_val Later.pre 9 rfl (by kernel_rfl) (by kernel_rfl) (by kernel_rfl) (fun _ _ _ _ h => h) rfl ?_; apply Exists.intro; refine ⟨fun w1 hw1 => ?_, ?_⟩; (· (go_simp; rfl)); simp only [Act.put, List.setIfInBounds_toArray, List.set_cons_zero, List.set_cons_succ]
  refine anyR_val Later.pre 10 rfl (by kernel_rfl) (by kernel_rfl) (by kernel_rfl) (fun _ _ _ _ h => h) rfl ?_; apply Exists.intro; refine ⟨fun w1 hw1 => ?_, ?_⟩; (· (go_simp; rfl)); simp only [Act.put, List.setIfInBounds_toArray, List.set_cons_zero, List.set_cons_succ]
  refine anyR_one 11 rfl (by kernel_rfl) rfl (fun W9 hL9 => ?_)
  have hL10 := (hL7.trans hL8).trans hL9
  have hk9 : Below rb w W9 := Later.below hk2 hrb hL10
  by_cases h5 : nn < hl4 zs
  · refine wp_enter 123 #[.bool true, .int .i64 4] (by go_simp) ((refuse_yes 4 _).mono ?_)
    rintro e w' ⟨rfl, rfl⟩
    have := HM.out
    rw [if_neg h1, if_neg h2, if_neg (by omega), if_neg (by omega), if_pos h5] at this
    subst this
    exact ⟨rfl, hk9, .inl ⟨by omega, rfl⟩⟩
  refine wp_enter 123 #[.bool false, .int .i64 4] (by go_simp) ((refuse_no 4 _).mono ?_)
  rintro e w' ⟨rfl, rfl⟩
  refine ⟨Later.refl _, anyR_done (by kernel_rfl) (fun W11 hL11 => ?_)⟩
  simp only [Act.put, List.setIfInBounds_toArray, List.set_cons_zero, List.set_cons_succ]
  have hL12 := hL10.trans hL11
  go_end0
  have := HM.out
  rw [if_neg h1, if_neg h2, if_neg (by omega), if_neg (by omega), if_neg h5] at this
  refine ⟨hk9.trans (hL11.mono (Nat.le_trans hrb hk9.size)), .inr ⟨this, rfl, hL12.cell l0, (hL12.cell l1).trans (by rw [HN.out]), hL12.cell l2, ?_⟩⟩
  exact (Below.frozen hL12 (p := ⟨rb, 1, none⟩) (World.block_lt_of_cell? _ ⟨rb, 1, none⟩ l1)).trans m1
end Go.Proofs.YtohflohdbkamnaaGreatDoor
