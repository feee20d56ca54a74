/- Package ipv4's reader: what it checks, and the packet that it takes out. -/
import Derived.Test.YtohflohdbkamnaaGreatDoorVP
namespace Go.Proofs.YtohflohdbkamnaaGreatDoor
open Go.RowKit Go.Shelf
set_option maxRecDepth 100000
set_option linter.unusedVariables false
set_option linter.unusedSimpArgs false

/-- What is wrong with a header whose sizes fit. -/
def chk (zs : List Int) : Int :=
  if Mt.cks (zs.take (hl4 zs).toNat) ≠ 0 then 5 else if wat zs 6 % 16384 ≠ 0 then 7 else if 32768 ≤ wat zs 6 then 4 else 0

theorem and14 (x : Int) (h : 0 ≤ x ∧ x ≤ 65535) : bits .and .u16 x 16383 = x % 16384 := by
  rw [u16_and x 16383 h.1 (by omega) (by omega) (by omega)]
  have : x.toNat &&& (16383 : Int).toNat = x.toNat % 16384 := Nat.and_two_pow_sub_one_eq_mod x.toNat 14
  omega
theorem nat_bit (n k : Nat) : n &&& 2 ^ k = if n / 2 ^ k % 2 = 1 then 2 ^ k else 0 := by
  apply Nat.eq_of_testBit_eq
  intro i
  rw [Nat.testBit_and, Nat.testBit_two_pow]
  by_cases h : k = i
  · subst h
    rw [Nat.testBit_eq_decide_div_mod_eq]
    split <;> simp_all
  · split <;> simp [h, Nat.testBit_two_pow]
theorem and_top (x : Int) (h : 0 ≤ x ∧ x ≤ 65535) : bits .and .u16 x 32768 = if 32768 ≤ x then 32768 else 0 := by
  rw [u16_and x 32768 h.1 (by omega) (by omega) (by omega)]
  have := nat_bit x.toNat 15
  simp at this
  simp
  rw [this]
  split <;> split <;> omega
theorem and_keep (x : Int) (h : 0 ≤ x ∧ x ≤ 65535) : bits .and .u16 x 16384 = if 16384 ≤ x % 32768 then 16384 else 0 := by
  rw [u16_and x 16384 h.1 (by omega) (by omega) (by omega)]
  have := nat_bit x.toNat 14
  simp at this
  simp
  rw [this]
  split <;> split <;> omega

set_option maxHeartbeats 2000000 in
theorem check_any (rb : Nat) (sv : Value) (zs : List Int) (w : World) (hB : Mt.By zs) (hl : zs.length ≤ 225000000000000) (hI : Rd w.heap.size w sv zs) (h20 : 20 ≤ hl4 zs) (hle : hl4 zs ≤ zs.length)
    (c0 : w.cell? ⟨rb, 0, none⟩ = some (.int .i64 (hl4 zs))) (c2 : w.cell? ⟨rb, 2, none⟩ = some sv) :
    Calls Tryz.prog 124 #[.pointer (some ⟨rb, 0, none⟩)] w fun e w' => Later w w' ∧ ((chk zs ≠ 0 ∧ e = .panicked (rfp (chk zs))) ∨ (chk zs = 0 ∧ e = .returned (.tuple #[]))) := by
  obtain ⟨a, cap, rfl, hl1, hm1⟩ := hI.slice
  have HM : Hid (chk zs = if Mt.cks (zs.take (hl4 zs).toNat) ≠ 0 then 5 else if wat zs 6 % 16384 ≠ 0 then 7 else if 32768 ≤ wat zs 6 then 4 else 0) := rfl
  generalize chk zs = m at *
  have hff := wat_bd hB 6
  have ha1 := and14 _ hff
  have ha2 := and_top _ hff
  obtain ⟨k, hk⟩ := Int.eq_ofNat_of_zero_le (show 0 ≤ hl4 zs by omega)
  have hk60 : k ≤ 60 := by have := hl4_bd hB; omega
  rw [hk] at h20 hle c0 HM
  clear hk
  simp only [Int.toNat_natCast] at HM
  go_enter Tryz.func124, Tryz.ntmps124
  go_wp2_with fail
  refine (get16_rd _ zs hB 6 (by omega) w hI).mono ?_
  rintro e w2 ⟨rfl, q, rfl⟩
  generalize wat zs 6 = ff at *
  go_wp2_with fail
  refine anyR_begin Later.pre Later.drew 13 rfl (by kernel_rfl) (fun W4 hL4 => ?_)
  have hw4 : Later w W4 := Later.trans (below_draw (Later.refl w) q) hL4
  have q0 : ∀ w1, Later W4 w1 → w1.cell? ⟨rb, 0, none⟩ = some (.int .i64 k) := fun w1 h => (hw4.trans h).cell c0
  have q2 : ∀ w1, Later W4 w1 → w1.cell? ⟨rb, 2, none⟩ = some (.slice a zs.length cap) := fun w1 h => (hw4.trans h).cell c2
  have hkc : (k : Int) ≤ cap := by omega
  refine anyR_val Later.pre 0 rfl (by kernel_rfl) (by kernel_rfl) (by kernel_rfl) (fun _ _ _ _ h => h) rfl ?_; apply Exists.intro; refine ⟨fun w1 hw1 => ?_, ?_⟩; (· (go_simp; rfl)); simp only [Act.put, List.setIfInBounds_toArray, List.set_cons_zero, List.set_cons_succ]
  refine anyR_val Later.pre 1 rfl (by kernel_rfl) (by kernel_rfl) (by kernel_rfl) (fun _ _ _ _ h => h) rfl ?_; apply Exists.intro; refine ⟨fun w1 hw1 => ?_, ?_⟩; (· (go_simp; rfl)); simp only [Act.put, List.setIfInBounds_toArray, List.set_cons_zero, List.set_cons_succ]
  refine anyR_val Later.pre 2 rfl (by kernel_rfl) (by kernel_rfl) (by kernel_rfl) (fun _ _ _ _ h => h) rfl ?_; apply Exists.intro; refine ⟨fun w1 hw1 => ?_, ?_⟩; (· (go_simp; rfl)); simp only [Act.put, List.setIfInBounds_toArray, List.set_cons_zero, List.set_cons_succ]
  refine anyR_val Later.pre 3 rfl (by kernel_rfl) (by kernel_rfl) (by kernel_rfl) (fun _ _ _ _ h => h) rfl ?_; apply Exists.intro; refine ⟨fun w1 hw1 => ?_, ?_⟩; (· (go_simp; rfl)); simp only [Act.put, List.setIfInBounds_toArray, List.set_cons_zero, List.set_cons_succ]
  refine anyR_val Later.pre 4 rfl (by kernel_rfl) (by kernel_rfl) (by kernel_rfl) (fun _ _ _ _ h => h) rfl ?_; apply Exists.intro; refine ⟨fun w1 hw1 => ?_, ?_⟩; (· (go_simp; rfl)); simp only [Act.put, List.setIfInBounds_toArray, List.set_cons_zero, List.set_cons_succ]
  refine anyR_val Later.pre 5 rfl (by kernel_rfl) (by kernel_rfl) (by kernel_rfl) (fun _ _ _ _ h => h) rfl ?_; apply Exists.intro; refine ⟨fun w1 hw1 => ?_, ?_⟩; (· (go_simp; rfl)); simp only [Act.put, List.setIfInBounds_toArray, List.set_cons_zero, List.set_cons_succ]
  refine anyR_val Later.pre 6 rfl (by kernel_rfl) (by kernel_rfl) (by kernel_rfl) (fun _ _ _ _ h => h) rfl ?_; apply Exists.intro; refine ⟨fun w1 hw1 => ?_, ?_⟩; (· (go_simp; rfl)); simp only [Act.put, List.setIfInBounds_toArray, List.set_cons_zero, List.set_cons_succ]
  refine anyR_val Later.pre 7 rfl (by kernel_rfl) (by kernel_rfl) (by kernel_rfl) (fun _ _ _ _ h => h) rfl ?_; apply Exists.intro; refine ⟨fun w1 hw1 => ?_, ?_⟩; (· (go_simp; rfl)); simp only [Act.put, List.setIfInBounds_toArray, List.set_cons_zero, List.set_cons_succ]
  refine anyR_val Later.pre 8 rfl (by kernel_rfl) (by kernel_rfl) (by kernel_rfl) (fun _ _ _ _ h => h) rfl ?_; apply Exists.intro; refine ⟨fun w1 hw1 => ?_, ?_⟩; (· (go_simp; rfl)); simp only [Act.put, List.setIfInBounds_toArray, List.set_cons_zero, List.set_cons_succ]
  refine anyR_val Later.pre 9 rfl (by kernel_rfl) (by kernel_rfl) (by kernel_rfl) (fun _ _ _ _ h => h) rfl ?_; apply Exists.intro; refine ⟨fun w1 hw1 => ?_, ?_⟩; (· (go_simp; rfl)); simp only [Act.put, List.setIfInBounds_toArray, List.set_cons_zero, List.set_cons_succ]
  refine anyR_take Later.pre 10 (.bool (Mt.cks (zs.take k) == 0)) rfl (by kernel_rfl) (by kernel_rfl) (by kernel_rfl) (fun _ _ _ h => h) rfl (fun w1 hw1 => goes_call 168 #[.slice a k cap] (by go_simp) ?_) ?_
  · exact (good_any _ (zs.take k) (hB.take _) (by simp; omega) w1 (((hI.take k (by omega)).below (hw4.trans hw1)).mono (hw4.trans hw1).size)).mono fun e w' ⟨he, hb⟩ => ⟨he, hb⟩
  simp only [Act.put, List.setIfInBounds_toArray, List.set_cons_zero, List.set_cons_succ]
  cases hg : (Mt.cks (zs.take k) == 0)
  · refine anyR_val Later.pre 11 rfl (by kernel_rfl) (by kernel_rfl) (by kernel_rfl) (fun _ _ _ _ h => h) rfl ?_; apply Exists.intro; refine ⟨fun w1 hw1 => ?_, ?_⟩; (· (go_simp; rfl)); simp only [Act.put, List.setIfInBounds_toArray, List.set_cons_zero, List.set_cons_succ]
    refine anyR_one 12 rfl (by kernel_rfl) rfl (fun W5 hL5 => ?_)
    refine wp_enter 123 #[.bool true, .int .i64 5] (by go_simp) ((refuse_yes 5 _).mono ?_)
    rintro e w' ⟨rfl, rfl⟩
    have := HM.out
    rw [if_pos (by simpa using hg)] at this
    subst this
    exact ⟨rfl, hw4.trans hL5, .inl ⟨by omega, rfl⟩⟩
  refine anyR_val Later.pre 11 rfl (by kernel_rfl) (by kernel_rfl) (by kernel_rfl) (fun _ _ _ _ h => h) rfl ?_; apply Exists.intro; refine ⟨fun w1 hw1 => ?_, ?_⟩; (· (go_simp; rfl)); simp only [Act.put, List.setIfInBounds_toArray, List.set_cons_zero, List.set_cons_succ]
  refine anyR_one 12 rfl (by kernel_rfl) rfl (fun W5 hL5 => ?_)
  refine wp_enter 123 #[.bool false, .int .i64 5] (by go_simp) ((refuse_no 5 _).mono ?_)
  rintro e w' ⟨rfl, rfl⟩
  refine ⟨Later.refl _, anyR_done (by kernel_rfl) (fun W6 hL6 => ?_)⟩
  simp only [Act.put, List.setIfInBounds_toArray, List.set_cons_zero, List.set_cons_succ]
  have hw6 := (hw4.trans hL5).trans hL6
  have h1 : ¬ Mt.cks (zs.take k) ≠ 0 := by simpa using hg
  clear q0 q2 hL4 hL5 hL6 hg
  go_wp2_with fail
  by_cases h2 : ff % 16384 ≠ 0
  · rw [show (ff % 16384 != 0) = true from by simpa using h2]
    refine (refuse_yes 7 _).mono ?_
    rintro e w' ⟨rfl, rfl⟩
    have := HM.out
    rw [if_neg h1, if_pos h2] at this
    subst this
    exact ⟨rfl, hw6, .inl ⟨by omega, rfl⟩⟩
  rw [show (ff % 16384 != 0) = false from by simpa using h2]
  refine (refuse_no 7 _).mono ?_
  rintro e w' ⟨rfl, rfl⟩
  by_cases h3 : 32768 ≤ ff
  · rw [if_pos h3] at ha2
    go_wp2_with fail
    refine (refuse_yes 4 _).mono ?_
    rintro e w' ⟨rfl, rfl⟩
    have := HM.out
    rw [if_neg h1, if_neg h2, if_pos h3] at this
    subst this
    exact ⟨rfl, hw6, .inl ⟨by omega, rfl⟩⟩
  rw [if_neg h3] at ha2
  go_wp2_with fail
  refine (refuse_no 4 _).mono ?_
  rintro e w' ⟨rfl, rfl⟩
  go_wp2
  go_end0
  have := HM.out
  rw [if_neg h1, if_neg h2, if_neg (by omega)] at this
  exact ⟨hw6, .inr ⟨this, rfl⟩⟩
end Go.Proofs.YtohflohdbkamnaaGreatDoor
