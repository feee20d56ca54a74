/- The document's Hash. -/
import Derived.Test.YtojoaidnkljcpaaDoorKK
import Derived.Test.YtojoaidnkljcpaaDoorTN
namespace Go.Proofs.YtojoaidnkljcpaaDoor
open Go.RowKit Go.Shelf
set_option maxRecDepth 100000
set_option linter.unusedVariables false
set_option linter.unusedSimpArgs false

theorem later_4 (W : World) (x y z u : Int) : Later W (W.alloc (.cells #[.int .u8 x, .int .u8 y, .int .u8 z, .int .u8 u] 5)) := (Below.refl _ _).alloc (Nat.le_refl _) _
theorem rw_one (W : World) (x : Int) : Rw W (.slice (some ⟨W.heap.size, 0, none⟩) 1 1) [x] (W.alloc (.cells #[.int .u8 x] 5)) :=
  ⟨⟨rfl, .inr ⟨W.heap.size, 1, _, rfl, Nat.le_refl _, heap_alloc_new W _, by simp, by simp [maxLen], rfl, rfl⟩⟩, (Below.refl _ _).alloc (Nat.le_refl _) _⟩
theorem hsh_step (L : List Int) (k : Nat) (h : k < L.length) : hsh (L.take (k + 1)) = hstep (hsh (L.take k)) (L[k]?.getD 0) := by
  unfold hsh
  rw [List.take_add_one, List.foldl_append]
  simp [h]

set_option maxHeartbeats 4000000 in
theorem rhash_any (p s d a b : Int) (w : World) (hs : 0 ≤ s ∧ s ≤ 4294967295) (hd : 0 ≤ d ∧ d ≤ 4294967295) (ha : 0 ≤ a ∧ a ≤ 65535) (hb : 0 ≤ b ∧ b ≤ 65535) : Calls Tryd.prog 19 #[.agg #[Value.int .u8 p, .int .u32 s, .int .u32 d, .int .u16 a, .int .u16 b]] w fun e w' => e = .returned (.int .u32 (hsh (tb p s d (kyp p a) b))) ∧ Below w.heap.size w w' := by
  have hk : 0 ≤ kyp p a ∧ kyp p a ≤ 65535 := by unfold kyp; split <;> omega
  have hb0 : Below w.heap.size w (w.alloc (.cells #[Value.int .u8 p, .int .u32 s, .int .u32 d, .int .u16 a, .int .u16 b] 28)) := (Below.refl _ _).alloc (Nat.le_refl _) _
  go_enter Tryd.func19, Tryd.ntmps19
  go_wp2_with fail
  generalize w.alloc (.cells #[Value.int .u8 p, .int .u32 s, .int .u32 d, .int .u16 a, .int .u16 b] 28) = w0 at *
  refine (rkey_any p s d a b _).mono ?_
  rintro e w1 ⟨rfl, hb1⟩
  have hw1 := hb0.trans (hb1.mono hb0.size)
  generalize hkk0 : kyp p a = ka at *
  have HKA := hide hkk0
  clear hkk0
  have l2 : Later w1 (w1.alloc (.cells #[Value.int .u8 p, .int .u32 s, .int .u32 d, .int .u16 ka, .int .u16 b] 28)) := (Below.refl _ _).alloc (Nat.le_refl _) _
  have m2 := heap_alloc_new w1 (.cells #[Value.int .u8 p, .int .u32 s, .int .u32 d, .int .u16 ka, .int .u16 b] 28)
  have hw2 := hw1.trans (l2.mono hw1.size)
  have hlt2 : w1.heap.size < (w1.alloc (.cells #[Value.int .u8 p, .int .u32 s, .int .u32 d, .int .u16 ka, .int .u16 b] 28)).heap.size := by simp
  have hsz2 : (w1.alloc (.cells #[Value.int .u8 p, .int .u32 s, .int .u32 d, .int .u16 ka, .int .u16 b] 28)).heap.size = w1.heap.size + 1 := by simp
  have R3 := rw_one (w1.alloc (.cells #[Value.int .u8 p, .int .u32 s, .int .u32 d, .int .u16 ka, .int .u16 b] 28)) p
  go_upto_region 3 with fail
  rw [hsz2] at R3
  generalize w1.alloc (.cells #[Value.int .u8 p, .int .u32 s, .int .u32 d, .int .u16 ka, .int .u16 b] 28) = w2 at *
  clear hsz2
  generalize w2.alloc (.cells #[.int .u8 p] 5) = w3 at *
  generalize some (⟨w1.heap.size + 1, 0, none⟩ : Addr) = a3 at *
  go_cut [4] (fun v wx => Rw w2 v ([p] ++ [s / 16777216, s / 65536 % 256, s / 256 % 256, s % 256] ++ [d / 16777216, d / 65536 % 256, d / 256 % 256, d % 256]) wx)
  case first =>
    refine anyT_begin (R := But (fun b => w2.heap.size ≤ b)) 10 rfl (by kernel_rfl) ?_
    have Q0 := R3.later (Later.drew w3)
    have md := Q0.block m2
    generalize w3.drew = Wd at *
    have ha : ∀ v1, But (fun b => w2.heap.size ≤ b) Wd v1 → ∀ i, v1.cell? ⟨w1.heap.size, i, none⟩ = #[Value.int .u8 p, .int .u32 s, .int .u32 d, .int .u16 ka, .int .u16 b][i]? := fun v1 h => block_cell ((h.block w1.heap.size (Array.getElem?_eq_some_iff.1 md).1 (by omega)).trans md)
    refine anyT_val (But.pre _) 0 rfl (by kernel_rfl) (by kernel_rfl) (by kernel_rfl) (fun _ _ _ _ h => h) rfl ?_; apply Exists.intro; refine ⟨fun v1 hv1 => ?_, ?_⟩; (· (go_simp; rfl)); simp only [Act.put, List.setIfInBounds_toArray, List.set_cons_zero, List.set_cons_succ]
    refine anyT_val (But.pre _) 1 rfl (by kernel_rfl) (by kernel_rfl) (by kernel_rfl) (fun _ _ _ _ h => h) rfl ?_; apply Exists.intro; refine ⟨fun v1 hv1 => ?_, ?_⟩; (· (go_simp; rfl)); simp only [Act.put, List.setIfInBounds_toArray, List.set_cons_zero, List.set_cons_succ]
    refine anyT_val (But.pre _) 2 rfl (by kernel_rfl) (by kernel_rfl) (by kernel_rfl) (fun _ _ _ _ h => h) rfl ?_; apply Exists.intro; refine ⟨fun v1 hv1 => ?_, ?_⟩; (· (go_simp; rfl)); simp only [Act.put, List.setIfInBounds_toArray, List.set_cons_zero, List.set_cons_succ]
    refine anyT_val (But.pre _) 5 rfl (by kernel_rfl) (by kernel_rfl) (by kernel_rfl) (fun _ _ _ _ h => h) rfl ?_; apply Exists.intro; refine ⟨fun v1 hv1 => ?_, ?_⟩; (· (go_simp; rfl)); simp only [Act.put, List.setIfInBounds_toArray, List.set_cons_zero, List.set_cons_succ]
    refine anyT_val (But.pre _) 6 rfl (by kernel_rfl) (by kernel_rfl) (by kernel_rfl) (fun _ _ _ _ h => h) rfl ?_; apply Exists.intro; refine ⟨fun v1 hv1 => ?_, ?_⟩; (· (go_simp; rfl)); simp only [Act.put, List.setIfInBounds_toArray, List.set_cons_zero, List.set_cons_succ]
    refine anyT_one 3 rfl (by kernel_rfl) rfl ?_
    refine wp_enter 37 #[.int .u32 s] (by go_simp) ?_
    refine (four_any s hs Wd).mono ?_
    rintro e w4 ⟨rfl, rfl⟩
    have R4 := Q0.later (later_4 Wd (s / 16777216) (s / 65536 % 256) (s / 256 % 256) (s % 256))
    have X4 := Rd.new4 (s / 16777216) (s / 65536 % 256) (s / 256 % 256) (s % 256) 5 Wd
    refine ⟨But.of (later_4 Wd (s / 16777216) (s / 65536 % 256) (s / 256 % 256) (s % 256)), ?_⟩
    simp only [Act.put, List.setIfInBounds_toArray, List.set_cons_zero, List.set_cons_succ]
    generalize Wd.alloc (.cells #[.int .u8 (s / 16777216), .int .u8 (s / 65536 % 256), .int .u8 (s / 256 % 256), .int .u8 (s % 256)] 5) = W4 at *
    refine anyT_one 4 rfl (by kernel_rfl) rfl ?_
    obtain ⟨v5, W5, hrun5, R5, bt5⟩ := R4.app 24 _ _ _ X4 (by simp)
    refine wp_app (.tmp 12) (.tmp 15) 24 rfl _ _ rfl rfl _ W5 hrun5 ⟨bt5, ?_⟩
    simp only [Act.put, List.setIfInBounds_toArray, List.set_cons_zero, List.set_cons_succ]
    refine anyT_one 7 rfl (by kernel_rfl) rfl ?_
    refine wp_enter 37 #[.int .u32 d] (by go_simp) ?_
    refine (four_any d hd W5).mono ?_
    rintro e w4 ⟨rfl, rfl⟩
    have R6 := R5.later (later_4 W5 (d / 16777216) (d / 65536 % 256) (d / 256 % 256) (d % 256))
    have X6 := Rd.new4 (d / 16777216) (d / 65536 % 256) (d / 256 % 256) (d % 256) 5 W5
    refine ⟨But.of (later_4 W5 (d / 16777216) (d / 65536 % 256) (d / 256 % 256) (d % 256)), ?_⟩
    simp only [Act.put, List.setIfInBounds_toArray, List.set_cons_zero, List.set_cons_succ]
    generalize W5.alloc (.cells #[.int .u8 (d / 16777216), .int .u8 (d / 65536 % 256), .int .u8 (d / 256 % 256), .int .u8 (d % 256)] 5) = W6 at *
    refine anyT_one 8 rfl (by kernel_rfl) rfl ?_
    obtain ⟨v7, W7, hrun7, R7, bt7⟩ := R6.app 24 _ _ _ X6 (by simp)
    refine wp_app (.tmp 16) (.tmp 19) 24 rfl _ _ rfl rfl _ W7 hrun7 ⟨bt7, ?_⟩
    simp only [Act.put, List.setIfInBounds_toArray, List.set_cons_zero, List.set_cons_succ]
    refine anyT_one 9 rfl (by kernel_rfl) rfl ?_
    unfold Oper.wp
    go_simp
    refine ⟨But.refl _ _, ?_⟩
    refine anyT_done (by kernel_rfl) ?_
    clear ha hrun5 hrun7
    go_wp2_with fail
    go_meet
    case rel => exact R7
  case rest =>
    have R8 : Rw w2 _ ([p] ++ [s / 16777216, s / 65536 % 256, s / 256 % 256, s % 256] ++ [d / 16777216, d / 65536 % 256, d / 256 % 256, d % 256]) wc := hcut
    clear hcut R3
    go_upto_region 4 with fail
    go_cut [4] (fun v wx => Rw w2 v ([p] ++ [s / 16777216, s / 65536 % 256, s / 256 % 256, s % 256] ++ [d / 16777216, d / 65536 % 256, d / 256 % 256, d % 256] ++ [ka / 256, ka % 256] ++ [b / 256, b % 256]) wx)
    case first =>
      refine anyT_begin (R := But (fun b => w2.heap.size ≤ b)) 10 rfl (by kernel_rfl) ?_
      have Q0 := R8.later (Later.drew wc)
      have md := Q0.block m2
      generalize wc.drew = Wd at *
      have ha : ∀ v1, But (fun b => w2.heap.size ≤ b) Wd v1 → ∀ i, v1.cell? ⟨w1.heap.size, i, none⟩ = #[Value.int .u8 p, .int .u32 s, .int .u32 d, .int .u16 ka, .int .u16 b][i]? := fun v1 h => block_cell ((h.block w1.heap.size (Array.getElem?_eq_some_iff.1 md).1 (by omega)).trans md)
      refine anyT_val (But.pre _) 0 rfl (by kernel_rfl) (by kernel_rfl) (by kernel_rfl) (fun _ _ _ _ h => h) rfl ?_; apply Exists.intro; refine ⟨fun v1 hv1 => ?_, ?_⟩; (· (go_simp; rfl)); simp only [Act.put, List.setIfInBounds_toArray, List.set_cons_zero, List.set_cons_succ]
      refine anyT_val (But.pre _) 1 rfl (by kernel_rfl) (by kernel_rfl) (by kernel_rfl) (fun _ _ _ _ h => h) rfl ?_; apply Exists.intro; refine ⟨fun v1 hv1 => ?_, ?_⟩; (· (go_simp; rfl)); simp only [Act.put, List.setIfInBounds_toArray, List.set_cons_zero, List.set_cons_succ]
      refine anyT_val (But.pre _) 2 rfl (by kernel_rfl) (by kernel_rfl) (by kernel_rfl) (fun _ _ _ _ h => h) rfl ?_; apply Exists.intro; refine ⟨fun v1 hv1 => ?_, ?_⟩; (· (go_simp; rfl)); simp only [Act.put, List.setIfInBounds_toArray, List.set_cons_zero, List.set_cons_succ]
      refine anyT_val (But.pre _) 5 rfl (by kernel_rfl) (by kernel_rfl) (by kernel_rfl) (fun _ _ _ _ h => h) rfl ?_; apply Exists.intro; refine ⟨fun v1 hv1 => ?_, ?_⟩; (· (go_simp; rfl)); simp only [Act.put, List.setIfInBounds_toArray, List.set_cons_zero, List.set_cons_succ]
      refine anyT_val (But.pre _) 6 rfl (by kernel_rfl) (by kernel_rfl) (by kernel_rfl) (fun _ _ _ _ h => h) rfl ?_; apply Exists.intro; refine ⟨fun v1 hv1 => ?_, ?_⟩; (· (go_simp; rfl)); simp only [Act.put, List.setIfInBounds_toArray, List.set_cons_zero, List.set_cons_succ]
      refine anyT_one 3 rfl (by kernel_rfl) rfl ?_
      refine wp_enter 38 #[.int .u16 ka] (by go_simp) ?_
      refine (two_any ka hk Wd).mono ?_
      rintro e w4 ⟨rfl, rfl⟩
      have R4 := Q0.later (later_two Wd (ka / 256) (ka % 256))
      have X4 := Rd.new2 (ka / 256) (ka % 256) 5 Wd
      refine ⟨But.of (later_two Wd (ka / 256) (ka % 256)), ?_⟩
      simp only [Act.put, List.setIfInBounds_toArray, List.set_cons_zero, List.set_cons_succ]
      generalize Wd.alloc (.cells #[.int .u8 (ka / 256), .int .u8 (ka % 256)] 5) = W4 at *
      refine anyT_one 4 rfl (by kernel_rfl) rfl ?_
      obtain ⟨v5, W5, hrun5, R5, bt5⟩ := R4.app 24 _ _ _ X4 (by simp)
      refine wp_app (.tmp 21) (.tmp 24) 24 rfl _ _ rfl rfl _ W5 hrun5 ⟨bt5, ?_⟩
      simp only [Act.put, List.setIfInBounds_toArray, List.set_cons_zero, List.set_cons_succ]
      refine anyT_one 7 rfl (by kernel_rfl) rfl ?_
      refine wp_enter 38 #[.int .u16 b] (by go_simp) ?_
      refine (two_any b hb W5).mono ?_
      rintro e w4 ⟨rfl, rfl⟩
      have R6 := R5.later (later_two W5 (b / 256) (b % 256))
      have X6 := Rd.new2 (b / 256) (b % 256) 5 W5
      refine ⟨But.of (later_two W5 (b / 256) (b % 256)), ?_⟩
      simp only [Act.put, List.setIfInBounds_toArray, List.set_cons_zero, List.set_cons_succ]
      generalize W5.alloc (.cells #[.int .u8 (b / 256), .int .u8 (b % 256)] 5) = W6 at *
      refine anyT_one 8 rfl (by kernel_rfl) rfl ?_
      obtain ⟨v7, W7, hrun7, R7, bt7⟩ := R6.app 24 _ _ _ X6 (by simp)
      refine wp_app (.tmp 25) (.tmp 28) 24 rfl _ _ rfl rfl _ W7 hrun7 ⟨bt7, ?_⟩
      simp only [Act.put, List.setIfInBounds_toArray, List.set_cons_zero, List.set_cons_succ]
      refine anyT_one 9 rfl (by kernel_rfl) rfl ?_
      unfold Oper.wp
      go_simp
      refine ⟨But.refl _ _, ?_⟩
      refine anyT_done (by kernel_rfl) ?_
      clear ha hrun5 hrun7
      go_wp2_with fail
      go_meet
      case rel => exact R7
    case rest =>
      have R9 : Rw w2 _ (tb p s d ka b) wc := hcut
      clear hcut R8
      have hlen : (tb p s d ka b).length = 13 := rfl
      have hwc := hw2.trans (R9.2.mono hw2.size)
      generalize hL : tb p s d ka b = L at *
      have HL := hide hL
      clear hL
      obtain ⟨bb, off, cp, e, hcp, hcm, _, hcs⟩ := R9.ow.rd.cells (by omega)
      subst e
      have hcl : cp ≤ 9223372036854775807 := hcm
      have hlen' : (L.length : Int) = 13 := by omega
      have HLEN := hide hlen
      rw [hlen] at hcs hcp R9 ⊢
      clear hlen' hlen
      go_wp2_with fail
      go_loopw [5, 6] (fun h i wr => ∃ (k : Nat) (hv : Int), k ≤ 13 ∧ i = .int .i64 (k : Int) ∧ h = .int .u32 hv ∧ Hid (hv = hsh (L.take k)) ∧ wr = wc) (fun _ i _ => 13 - (intOf i).toNat)
      case atStart => exact ⟨0, 2166136261, by omega, rfl, rfl, rfl, rfl⟩
      case round =>
        obtain ⟨k, hv, hk13, rfl, rfl, HV, rfl⟩ := hrel
        by_cases hlt : k < 13
        · have hlt' : (k : Int) < 13 := by omega
          have c1 := hcs k hlt
          have HS := hide (hsh_step L k (by rw [HLEN.out]; exact hlt))
          generalize L[k]?.getD 0 = x at *
          clear hcs
          go_wp2_with fail
          go_roundw
          case rel => exact ⟨k + 1, hstep hv x, by omega, by go_num, rfl, by show _ = _; rw [HS.out, ← HV.out], trivial⟩
          case measure => simp [intOf]; omega
        · obtain rfl : k = 13 := by omega
          go_wp2_with fail
          exact bodyPost_ret (v := .int .u32 hv) (by simp [results, Tryd.results19, go_sem]) rfl ⟨by rw [HKA.out, HL.out, HV.out, List.take_of_length_le (by rw [HLEN.out]; exact Nat.le_refl _)], hwc⟩
end Go.Proofs.YtojoaidnkljcpaaDoor
