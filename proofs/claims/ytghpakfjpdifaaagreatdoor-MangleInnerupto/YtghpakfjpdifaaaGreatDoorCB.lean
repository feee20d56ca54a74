/- Package ctrl: messages. -/
import Derived.Deep.DeepCutAuto
import Derived.Deep.CutBlock
import Derived.Test.YtghpakfjpdifaaaGreatDoorCA
namespace Go.Proofs.YtghpakfjpdifaaaGreatDoor
open Go.RowKit Go.Shelf
set_option maxRecDepth 100000
set_option linter.unusedVariables false
set_option linter.unusedSimpArgs false

/-- A message's bytes, 0 for its check sum. -/
def icm0 (ty cde rest : Int) (zd : List Int) : List Int := ty :: cde :: 0 :: 0 :: rest / 65536 / 256 :: rest / 65536 % 256 :: rest % 65536 / 256 :: rest % 65536 % 256 :: zd
theorem icm0_join (ty cde rest : Int) (zd : List Int) : [[ty, cde], [(0 : Int) / 256, (0 : Int) % 256], [rest / 65536 / 256, rest / 65536 % 256, rest % 65536 / 256, rest % 65536 % 256], zd].flatten = icm0 ty cde rest zd := by simp [icm0]
theorem icm0_length (ty cde rest : Int) (zd : List Int) : (icm0 ty cde rest zd).length = 8 + zd.length := by simp [icm0]; omega
theorem By_icm0 (ty cde rest : Int) (zd : List Int) (h1 : 0 ≤ ty ∧ ty ≤ 255) (h2 : 0 ≤ cde ∧ cde ≤ 255) (h3 : 0 ≤ rest ∧ rest ≤ 4294967295) (hB : Mt.By zd) : Mt.By (icm0 ty cde rest zd) :=
 .mk h1 (.mk h2 (.mk (by omega) (.mk (by omega) (.mk (by omega) (.mk (by omega) (.mk (by omega) (.mk (by omega) hB)))))))
def icm (ty cde rest : Int) (zd : List Int) : List Int := Mt.put2 (icm0 ty cde rest zd) 2 (Mt.cks (icm0 ty cde rest zd))
theorem icm_length (ty cde rest : Int) (zd : List Int) : (icm ty cde rest zd).length = 8 + zd.length := by unfold icm; rw [Mt.put2_length, icm0_length]
theorem By_icm (ty cde rest : Int) (zd : List Int) (h1 : 0 ≤ ty ∧ ty ≤ 255) (h2 : 0 ≤ cde ∧ cde ≤ 255) (h3 : 0 ≤ rest ∧ rest ≤ 4294967295) (hB : Mt.By zd) : Mt.By (icm ty cde rest zd) := (By_icm0 ty cde rest zd h1 h2 h3 hB).put2 2 (Mt.cks_bd _)

theorem fld4 {w : World} {n : Nat} {t : TypeId} {v0 v1 v2 v3 : Value} (h : w.heap[n]? = some (.cells #[v0, v1, v2, v3] t (0, 0))) : w.cell? ⟨n, 0, none⟩ = some v0 ∧ w.cell? ⟨n, 1, none⟩ = some v1 ∧ w.cell? ⟨n, 2, none⟩ = some v2 ∧ w.cell? ⟨n, 3, none⟩ = some v3 :=
 ⟨block_cell h 0, block_cell h 1, block_cell h 2, block_cell h 3⟩

set_option maxHeartbeats 4000000 in
theorem buildIcmp_any (tos id ttl proto src dst ty cde rest : Int) (keep : Bool) (so sd sm : Value) (zo zd : List Int) (w : World) (hBo : Mt.By zo) (hIo : Rd w.heap.size w so zo) (hBd : Mt.By zd) (hIm : Rd w.heap.size w sm zd)
  (h1 : zo.length ≤ 140737488355328) (h2 : 8 + zd.length ≤ 140737488355328) (ht : 0 ≤ tos ∧ tos ≤ 255) (hid : 0 ≤ id ∧ id ≤ 65535) (htt : 0 ≤ ttl ∧ ttl ≤ 255) (hsr : 0 ≤ src ∧ src ≤ 4294967295) (hds : 0 ≤ dst ∧ dst ≤ 4294967295)
  (hty : 0 ≤ ty ∧ ty ≤ 255) (hco : 0 ≤ cde ∧ cde ≤ 255) (hre : 0 ≤ rest ∧ rest ≤ 4294967295) :
  Calls Tryz.prog 19 #[.agg #[.int .u8 tos, .int .u16 id, .bool keep, .int .u8 ttl, .int .u8 proto, .int .u32 src, .int .u32 dst, so, sd], .agg #[.int .u8 ty, .int .u8 cde, .int .u32 rest, sm]] w fun e w' => Below w.heap.size w w' ∧ ((flt zo.length (8 + zd.length) ≠ 0 ∧ e = .returned (.tuple #[.agg zcc.toArray, .int .i64 (flt zo.length (8 + zd.length))])) ∨
   (flt zo.length (8 + zd.length) = 0 ∧ ∃ ao co ad cd, e = .returned (.tuple #[.agg #[.int .u8 tos, .int .u16 id, .bool keep, .int .u8 ttl, .int .u8 1, .int .u32 src, .int .u32 dst, .slice ao zo.length co, .slice ad (8 + zd.length) cd], .int .i64 0]) ∧ Ow w.heap.size w' (.slice ao zo.length co) zo ∧ Ow w.heap.size w' (.slice ad (8 + zd.length) cd) (icm ty cde rest zd))) := by
 obtain ⟨ao, coo, rfl, hl1, hm1⟩ := hIo.slice
 obtain ⟨am, cm, rfl, hl2, hm2⟩ := hIm.slice
 go_enter Tryz.func19, Tryz.ntmps19
 go_upto_region 1 with fail
 go_cut [6] (fun b wx => Ow (w.heap.size + 3) wx b (icm0 ty cde rest zd) ∧ Below (w.heap.size + 3) (((w.alloc (.cells #[.int .u8 tos, .int .u16 id, .bool keep, .int .u8 ttl, .int .u8 proto, .int .u32 src, .int .u32 dst, .slice ao zo.length coo, sd] 26)).alloc (.cells #[.int .u8 ty, .int .u8 cde, .int .u32 rest, .slice am zd.length cm] 42)).alloc (.cells zcc.toArray 26)) wx)
 case first =>
  have hb0 : Below w.heap.size w (((w.alloc (.cells #[.int .u8 tos, .int .u16 id, .bool keep, .int .u8 ttl, .int .u8 proto, .int .u32 src, .int .u32 dst, .slice ao zo.length coo, sd] 26)).alloc (.cells #[.int .u8 ty, .int .u8 cde, .int .u32 rest, .slice am zd.length cm] 42)).alloc (.cells zcc.toArray 26)) := (((Below.refl _ _).alloc (Nat.le_refl _) _).alloc (by simp) _).alloc (by simp; omega) _
  have m0 : (((w.alloc (.cells #[.int .u8 tos, .int .u16 id, .bool keep, .int .u8 ttl, .int .u8 proto, .int .u32 src, .int .u32 dst, .slice ao zo.length coo, sd] 26)).alloc (.cells #[.int .u8 ty, .int .u8 cde, .int .u32 rest, .slice am zd.length cm] 42)).alloc (.cells zcc.toArray 26)).heap[w.heap.size + 1]? = some (.cells #[.int .u8 ty, .int .u8 cde, .int .u32 rest, .slice am zd.length cm] 42 (0, 0)) := by
   have := heap_alloc_new (w.alloc (.cells #[.int .u8 tos, .int .u16 id, .bool keep, .int .u8 ttl, .int .u8 proto, .int .u32 src, .int .u32 dst, .slice ao zo.length coo, sd] 26)) (.cells #[.int .u8 ty, .int .u8 cde, .int .u32 rest, .slice am zd.length cm] 42)
   rw [World.size_alloc] at this
   exact (Below.heap_alloc _ _ _ (by simp)).trans this
  have hs0 : (((w.alloc (.cells #[.int .u8 tos, .int .u16 id, .bool keep, .int .u8 ttl, .int .u8 proto, .int .u32 src, .int .u32 dst, .slice ao zo.length coo, sd] 26)).alloc (.cells #[.int .u8 ty, .int .u8 cde, .int .u32 rest, .slice am zd.length cm] 42)).alloc (.cells zcc.toArray 26)).heap.size = w.heap.size + 3 := by simp
  have HS0 := hide hs0
  clear hs0
  generalize ((w.alloc (.cells #[.int .u8 tos, .int .u16 id, .bool keep, .int .u8 ttl, .int .u8 proto, .int .u32 src, .int .u32 dst, .slice ao zo.length coo, sd] 26)).alloc (.cells #[.int .u8 ty, .int .u8 cde, .int .u32 rest, .slice am zd.length cm] 42)).alloc (.cells zcc.toArray 26) = W0 at *
  refine anyR_begin (R := Later) Later.pre Later.drew 14 rfl (by kernel_rfl) (fun W1 hW1 => ?_)
  have hl : ∀ w1, Later W1 w1 → Later W0 w1 := fun w1 h => hW1.trans h
  have c0 : ∀ w1, Later W1 w1 → w1.cell? ⟨w.heap.size + 1, 0, none⟩ = some (.int .u8 ty) := fun w1 h => (hl w1 h).cell (fld4 m0).1
  have c1 : ∀ w1, Later W1 w1 → w1.cell? ⟨w.heap.size + 1, 1, none⟩ = some (.int .u8 cde) := fun w1 h => (hl w1 h).cell (fld4 m0).2.1
  have c2 : ∀ w1, Later W1 w1 → w1.cell? ⟨w.heap.size + 1, 2, none⟩ = some (.int .u32 rest) := fun w1 h => (hl w1 h).cell (fld4 m0).2.2.1
  have c3 : ∀ w1, Later W1 w1 → w1.cell? ⟨w.heap.size + 1, 3, none⟩ = some (.slice am zd.length cm) := fun w1 h => (hl w1 h).cell (fld4 m0).2.2.2
  refine rV Later.pre 0 rfl rfl ?_; apply Exists.intro; refine ⟨fun w1 hw1 => ?_, ?_⟩; (· (go_simp; rfl)); simp only [Act.put, sA, sB, sC]
  refine rV Later.pre 1 rfl rfl ?_; apply Exists.intro; refine ⟨fun w1 hw1 => ?_, ?_⟩; (· (go_simp; rfl)); simp only [Act.put, sA, sB, sC]
  refine rV Later.pre 2 rfl rfl ?_; apply Exists.intro; refine ⟨fun w1 hw1 => ?_, ?_⟩; (· (go_simp; rfl)); simp only [Act.put, sA, sB, sC]
  refine rV Later.pre 3 rfl rfl ?_; apply Exists.intro; refine ⟨fun w1 hw1 => ?_, ?_⟩; (· (go_simp; rfl)); simp only [Act.put, sA, sB, sC]
  refine rV Later.pre 6 rfl rfl ?_; apply Exists.intro; refine ⟨fun w1 hw1 => ?_, ?_⟩; (· (go_simp; rfl)); simp only [Act.put, sA, sB, sC]
  refine rV Later.pre 7 rfl rfl ?_; apply Exists.intro; refine ⟨fun w1 hw1 => ?_, ?_⟩; (· (go_simp; rfl)); simp only [Act.put, sA, sB, sC]
  refine rV Later.pre 9 rfl rfl ?_; apply Exists.intro; refine ⟨fun w1 hw1 => ?_, ?_⟩; (· (go_simp; rfl)); simp only [Act.put, sA, sB, sC]
  refine rV Later.pre 10 rfl rfl ?_; apply Exists.intro; refine ⟨fun w1 hw1 => ?_, ?_⟩; (· (go_simp; rfl)); simp only [Act.put, sA, sB, sC]
  have hId0 : ∀ w1, Later W0 w1 → Rd w1.heap.size w1 (.slice am zd.length cm) zd := fun w1 h => ((hIm.below hb0).mono hb0.size).later h
  refine anyR_two 4 5 rfl rfl (by kernel_rfl) rfl rfl (fun W2 hW2 => ?_) (fun W2 hW2 => ?_)
  ·unfold Oper.wp
   go_simp
   have h11a := (Rd.new2 ty cde 5 W2).mono (show W2.heap.size + 1 ≤ (W2.alloc (.cells #[.int .u8 ty, .int .u8 cde] 5)).heap.size from by simp)
   have hla : Later W2 (W2.alloc (.cells #[.int .u8 ty, .int .u8 cde] 5)) := (Below.refl _ _).alloc (Nat.le_refl _) _
   refine ⟨hla, ?_⟩
   generalize W2.alloc (.cells #[.int .u8 ty, .int .u8 cde] 5) = W2a at *
   refine anyR_one 5 rfl (by kernel_rfl) rfl (fun W3 hW3 => ?_)
   refine wp_enter 55 #[.int .u16 0] (by go_simp) ?_
   refine (ctwo_any 0 (by omega) W3).mono ?_
   rintro e W3a ⟨a3, rfl, hO3, hb3⟩
   refine ⟨hb3, ?_⟩
   simp only [Act.put, sA, sB, sC]
   refine anyR_one 8 rfl (by kernel_rfl) rfl (fun W3b hW3b => ?_)
   refine wp_enter 56 #[.int .u32 rest] (by go_simp) ?_
   refine (cfour_any rest hre W3b).mono ?_
   rintro e W4 ⟨a4, rfl, hO4, hb4⟩
   refine ⟨hb4, ?_⟩
   simp only [Act.put, sA, sB, sC]
   have h11 := h11a.later ((hW3.trans hb3).trans (hW3b.trans hb4))
   have h12 := hO3.rd.later (hW3b.trans hb4)
   have h15 := hO4.rd
   have hl4 : Later W0 W4 := (hl W2 hW2).trans (hla.trans ((hW3.trans hb3).trans (hW3b.trans hb4)))
   generalize some (⟨W2.heap.size, 0, none⟩ : Addr) = a11 at *
   refine anyR_one 11 rfl (by kernel_rfl) rfl (fun W5 hW5 => ?_)
   unfold Oper.wp
   go_simp
   refine ⟨(Below.refl _ _).alloc (Nat.le_refl _) _, ?_⟩
   have k5 := heap_alloc_new W5 (.cells [.slice a11 2 2, .slice a3 2 2, .slice a4 4 4, .slice am zd.length cm].toArray 24)
   refine anyR_one 12 rfl (by kernel_rfl) rfl (fun W6 hW6 => ?_)
   have hl5 : Later W5 W6 := Below.trans ((Below.refl _ _).alloc (Nat.le_refl _) _) (hW6.mono (by simp))
   refine wp_enter 54 #[.slice (some ⟨W5.heap.size, 0, none⟩) 4 4] (by go_simp) ?_
   have hl46 : Later W4 W6 := hW5.trans hl5
   refine (joined_rds W5.heap.size 24 [.slice a11 2 2, .slice a3 2 2, .slice a4 4 4, .slice am zd.length cm] [[ty, cde], [(0 : Int) / 256, (0 : Int) % 256], [rest / 65536 / 256, rest / 65536 % 256, rest % 65536 / 256, rest % 65536 % 256], zd] W6 ((hW6.block W5.heap.size (by simp)).trans k5) ⟨h11.later hl46, h12.later hl46, h15.later hl46, (hId0 W6 (hl4.trans hl46)), trivial⟩ (by simp) (by rw [icm0_join, icm0_length]; omega)).mono ?_
   rintro e W7 ⟨v7, rfl, hO7, hb7⟩
   refine ⟨hb7, ?_⟩
   simp only [Act.put, sA, sB, sC]
   refine rV Later.pre 13 rfl rfl ?_; apply Exists.intro; refine ⟨fun w1 hw1 => ?_, ?_⟩; (· (go_simp; rfl)); simp only [Act.put, sA, sB, sC]
   refine anyR_done (by kernel_rfl) (fun W8 hW8 => ?_)
   rw [icm0_join] at hO7
   have hlA : Later W0 W8 := ((hl4.trans hl46).trans hb7).trans hW8
   go_wp2_with fail
   go_meet
   case rel => exact ⟨(((Ow.of_row hO7).later hW8).mono (by have := ((hl4.trans hl46)).size; have := HS0.out; omega)), hlA.mono (by have := HS0.out; omega)⟩
  ·refine wp_enter 55 #[.int .u16 0] (by go_simp) ?_
   refine (ctwo_any 0 (by omega) W2).mono ?_
   rintro e W2a ⟨a3, rfl, hO3, hb3⟩
   refine ⟨hb3, ?_⟩
   simp only [Act.put, sA, sB, sC]
   refine anyR_two 4 8 rfl rfl (by kernel_rfl) rfl rfl (fun W3 hW3 => ?_) (fun W3 hW3 => ?_)
   ·unfold Oper.wp
    go_simp
    have h11a := (Rd.new2 ty cde 5 W3).mono (show W3.heap.size + 1 ≤ (W3.alloc (.cells #[.int .u8 ty, .int .u8 cde] 5)).heap.size from by simp)
    have hla : Later W3 (W3.alloc (.cells #[.int .u8 ty, .int .u8 cde] 5)) := (Below.refl _ _).alloc (Nat.le_refl _) _
    refine ⟨hla, ?_⟩
    generalize W3.alloc (.cells #[.int .u8 ty, .int .u8 cde] 5) = W3a at *
    refine anyR_one 8 rfl (by kernel_rfl) rfl (fun W3b hW3b => ?_)
    refine wp_enter 56 #[.int .u32 rest] (by go_simp) ?_
    refine (cfour_any rest hre W3b).mono ?_
    rintro e W4 ⟨a4, rfl, hO4, hb4⟩
    refine ⟨hb4, ?_⟩
    simp only [Act.put, sA, sB, sC]
    have h11 := h11a.later (hW3b.trans hb4)
    have h12 := hO3.rd.later ((hW3.trans hla).trans (hW3b.trans hb4))
    have h15 := hO4.rd
    have hl4 : Later W0 W4 := ((hl W2 hW2).trans hb3).trans ((hW3.trans hla).trans (hW3b.trans hb4))
    generalize some (⟨W3.heap.size, 0, none⟩ : Addr) = a11 at *
    refine anyR_one 11 rfl (by kernel_rfl) rfl (fun W5 hW5 => ?_)
    unfold Oper.wp
    go_simp
    refine ⟨(Below.refl _ _).alloc (Nat.le_refl _) _, ?_⟩
    have k5 := heap_alloc_new W5 (.cells [.slice a11 2 2, .slice a3 2 2, .slice a4 4 4, .slice am zd.length cm].toArray 24)
    refine anyR_one 12 rfl (by kernel_rfl) rfl (fun W6 hW6 => ?_)
    have hl5 : Later W5 W6 := Below.trans ((Below.refl _ _).alloc (Nat.le_refl _) _) (hW6.mono (by simp))
    refine wp_enter 54 #[.slice (some ⟨W5.heap.size, 0, none⟩) 4 4] (by go_simp) ?_
    have hl46 : Later W4 W6 := hW5.trans hl5
    refine (joined_rds W5.heap.size 24 [.slice a11 2 2, .slice a3 2 2, .slice a4 4 4, .slice am zd.length cm] [[ty, cde], [(0 : Int) / 256, (0 : Int) % 256], [rest / 65536 / 256, rest / 65536 % 256, rest % 65536 / 256, rest % 65536 % 256], zd] W6 ((hW6.block W5.heap.size (by simp)).trans k5) ⟨h11.later hl46, h12.later hl46, h15.later hl46, (hId0 W6 (hl4.trans hl46)), trivial⟩ (by simp) (by rw [icm0_join, icm0_length]; omega)).mono ?_
    rintro e W7 ⟨v7, rfl, hO7, hb7⟩
    refine ⟨hb7, ?_⟩
    simp only [Act.put, sA, sB, sC]
    refine rV Later.pre 13 rfl rfl ?_; apply Exists.intro; refine ⟨fun w1 hw1 => ?_, ?_⟩; (· (go_simp; rfl)); simp only [Act.put, sA, sB, sC]
    refine anyR_done (by kernel_rfl) (fun W8 hW8 => ?_)
    rw [icm0_join] at hO7
    have hlA : Later W0 W8 := ((hl4.trans hl46).trans hb7).trans hW8
    go_wp2_with fail
    go_meet
    case rel => exact ⟨(((Ow.of_row hO7).later hW8).mono (by have := ((hl4.trans hl46)).size; have := HS0.out; omega)), hlA.mono (by have := HS0.out; omega)⟩
   ·refine wp_enter 56 #[.int .u32 rest] (by go_simp) ?_
    refine (cfour_any rest hre W3).mono ?_
    rintro e W3a ⟨a4, rfl, hO4, hb4⟩
    refine ⟨hb4, ?_⟩
    simp only [Act.put, sA, sB, sC]
    refine anyR_one 4 rfl (by kernel_rfl) rfl (fun W3b hW3b => ?_)
    unfold Oper.wp
    go_simp
    have h11 := (Rd.new2 ty cde 5 W3b).mono (show W3b.heap.size + 1 ≤ (W3b.alloc (.cells #[.int .u8 ty, .int .u8 cde] 5)).heap.size from by simp)
    have hla : Later W3b (W3b.alloc (.cells #[.int .u8 ty, .int .u8 cde] 5)) := (Below.refl _ _).alloc (Nat.le_refl _) _
    refine ⟨hla, ?_⟩
    generalize W3b.alloc (.cells #[.int .u8 ty, .int .u8 cde] 5) = W4 at *
    have h12 := hO3.rd.later ((hW3.trans hb4).trans (hW3b.trans hla))
    have h15 := hO4.rd.later (hW3b.trans hla)
    have hl4 : Later W0 W4 := ((hl W2 hW2).trans hb3).trans ((hW3.trans hb4).trans (hW3b.trans hla))
    generalize some (⟨W3b.heap.size, 0, none⟩ : Addr) = a11 at *
    refine anyR_one 11 rfl (by kernel_rfl) rfl (fun W5 hW5 => ?_)
    unfold Oper.wp
    go_simp
    refine ⟨(Below.refl _ _).alloc (Nat.le_refl _) _, ?_⟩
    have k5 := heap_alloc_new W5 (.cells [.slice a11 2 2, .slice a3 2 2, .slice a4 4 4, .slice am zd.length cm].toArray 24)
    refine anyR_one 12 rfl (by kernel_rfl) rfl (fun W6 hW6 => ?_)
    have hl5 : Later W5 W6 := Below.trans ((Below.refl _ _).alloc (Nat.le_refl _) _) (hW6.mono (by simp))
    refine wp_enter 54 #[.slice (some ⟨W5.heap.size, 0, none⟩) 4 4] (by go_simp) ?_
    have hl46 : Later W4 W6 := hW5.trans hl5
    refine (joined_rds W5.heap.size 24 [.slice a11 2 2, .slice a3 2 2, .slice a4 4 4, .slice am zd.length cm] [[ty, cde], [(0 : Int) / 256, (0 : Int) % 256], [rest / 65536 / 256, rest / 65536 % 256, rest % 65536 / 256, rest % 65536 % 256], zd] W6 ((hW6.block W5.heap.size (by simp)).trans k5) ⟨h11.later hl46, h12.later hl46, h15.later hl46, (hId0 W6 (hl4.trans hl46)), trivial⟩ (by simp) (by rw [icm0_join, icm0_length]; omega)).mono ?_
    rintro e W7 ⟨v7, rfl, hO7, hb7⟩
    refine ⟨hb7, ?_⟩
    simp only [Act.put, sA, sB, sC]
    refine rV Later.pre 13 rfl rfl ?_; apply Exists.intro; refine ⟨fun w1 hw1 => ?_, ?_⟩; (· (go_simp; rfl)); simp only [Act.put, sA, sB, sC]
    refine anyR_done (by kernel_rfl) (fun W8 hW8 => ?_)
    rw [icm0_join] at hO7
    have hlA : Later W0 W8 := ((hl4.trans hl46).trans hb7).trans hW8
    go_wp2_with fail
    go_meet
    case rel => exact ⟨(((Ow.of_row hO7).later hW8).mono (by have := ((hl4.trans hl46)).size; have := HS0.out; omega)), hlA.mono (by have := HS0.out; omega)⟩
 case rest =>
  obtain ⟨hOb, hbW⟩ := hcut
  have p0 : (((w.alloc (.cells #[.int .u8 tos, .int .u16 id, .bool keep, .int .u8 ttl, .int .u8 proto, .int .u32 src, .int .u32 dst, .slice ao zo.length coo, sd] 26)).alloc (.cells #[.int .u8 ty, .int .u8 cde, .int .u32 rest, .slice am zd.length cm] 42)).alloc (.cells zcc.toArray 26)).heap[w.heap.size]? = some (.cells #[.int .u8 tos, .int .u16 id, .bool keep, .int .u8 ttl, .int .u8 proto, .int .u32 src, .int .u32 dst, .slice ao zo.length coo, sd] 26) := (Below.heap_alloc _ _ _ (by simp; omega)).trans ((Below.heap_alloc _ _ _ (by simp)).trans (heap_alloc_new w _))
  have r0 : (((w.alloc (.cells #[.int .u8 tos, .int .u16 id, .bool keep, .int .u8 ttl, .int .u8 proto, .int .u32 src, .int .u32 dst, .slice ao zo.length coo, sd] 26)).alloc (.cells #[.int .u8 ty, .int .u8 cde, .int .u32 rest, .slice am zd.length cm] 42)).alloc (.cells zcc.toArray 26)).heap[w.heap.size + 1 + 1]? = some (.cells zcc.toArray 26 (0, 0)) := by
   have := heap_alloc_new ((w.alloc (.cells #[.int .u8 tos, .int .u16 id, .bool keep, .int .u8 ttl, .int .u8 proto, .int .u32 src, .int .u32 dst, .slice ao zo.length coo, sd] 26)).alloc (.cells #[.int .u8 ty, .int .u8 cde, .int .u32 rest, .slice am zd.length cm] 42)) (.cells zcc.toArray 26)
   simpa using this
  have hb0 : Below w.heap.size w (((w.alloc (.cells #[.int .u8 tos, .int .u16 id, .bool keep, .int .u8 ttl, .int .u8 proto, .int .u32 src, .int .u32 dst, .slice ao zo.length coo, sd] 26)).alloc (.cells #[.int .u8 ty, .int .u8 cde, .int .u32 rest, .slice am zd.length cm] 42)).alloc (.cells zcc.toArray 26)) := (((Below.refl _ _).alloc (Nat.le_refl _) _).alloc (by simp) _).alloc (by simp; omega) _
  have hsW : w.heap.size + 3 ≤ wc.heap.size := by have := hbW.size; simp at this; omega
  generalize ((w.alloc (.cells #[.int .u8 tos, .int .u16 id, .bool keep, .int .u8 ttl, .int .u8 proto, .int .u32 src, .int .u32 dst, .slice ao zo.length coo, sd] 26)).alloc (.cells #[.int .u8 ty, .int .u8 cde, .int .u32 rest, .slice am zd.length cm] 42)).alloc (.cells zcc.toArray 26) = W0 at *
  have pW := (hbW.block w.heap.size (by omega)).trans p0
  have rW := (hbW.block (w.heap.size + 1 + 1) (by omega)).trans r0
  have hwc : Below w.heap.size w wc := hb0.trans (hbW.mono (by omega))
  have hBi := By_icm0 ty cde rest zd hty hco hre hBd
  have hli := icm0_length ty cde rest zd
  have hcb := Mt.cks_bd (icm0 ty cde rest zd)
  obtain ⟨ab, cb, rfl, hlb, hmb⟩ := hOb.slice
  rw [hli] at hOb hlb
  have HIc : Hid (icm ty cde rest zd = Mt.put2 (icm0 ty cde rest zd) 2 (Mt.cks (icm0 ty cde rest zd))) := rfl
  have HLi := hide hli
  clear p0 r0 hbW hli
  have hΦ0 : Stays (fun arr W => (flt zo.length (8 + zd.length) ≠ 0 ∧ arr = zcc.toArray) ∨ (flt zo.length (8 + zd.length) = 0 ∧ ∃ ao co ad cd, arr = #[.int .u8 tos, .int .u16 id, .bool keep, .int .u8 ttl, .int .u8 1, .int .u32 src, .int .u32 dst, .slice ao zo.length co, .slice ad (8 + zd.length) cd] ∧ Ow (w.heap.size + 3) W (.slice ao zo.length co) zo ∧ Ow (w.heap.size + 3) W (.slice ad (8 + zd.length) cd) (icm ty cde rest zd))) := by
   rintro arr A B l (h | ⟨h, ao, co, ad, cd, h1, h2, h3⟩)
   ·exact .inl h
   ·exact .inr ⟨h, ao, co, ad, cd, h1, h2.later l, h3.later l⟩
  obtain ⟨Φ, HΦ⟩ : ∃ Φ : Array Value → World → Prop, Hid (Φ = (fun arr W => (flt zo.length (8 + zd.length) ≠ 0 ∧ arr = zcc.toArray) ∨ (flt zo.length (8 + zd.length) = 0 ∧ ∃ ao co ad cd, arr = #[.int .u8 tos, .int .u16 id, .bool keep, .int .u8 ttl, .int .u8 1, .int .u32 src, .int .u32 dst, .slice ao zo.length co, .slice ad (8 + zd.length) cd] ∧ Ow (w.heap.size + 3) W (.slice ao zo.length co) zo ∧ Ow (w.heap.size + 3) W (.slice ad (8 + zd.length) cd) (icm ty cde rest zd)))) := ⟨_, rfl⟩
  have hΦ : Stays Φ := by rw [HΦ.out]; exact hΦ0
  clear hΦ0
  rw [HLi.out]
  go_wp2_with fail
  refine anyR_begin (R := KR (w.heap.size + 1 + 1) 9 26 Φ) (Keep.pre _ _ _) (fun w => KR.of hΦ (Later.drew w)) 10 rfl (by kernel_rfl) (fun W1 hW1 => ?_)
  have hg1 : Wr (w.heap.size + 1 + 1) 9 26 W1 := hW1.2.1 ⟨_, rW, rfl⟩
  have hbut : ∀ w1, KR (w.heap.size + 1 + 1) 9 26 Φ W1 w1 → But (fun b => b = w.heap.size + 1 + 1) wc w1 := fun w1 h => hW1.1.trans h.1
  have hbel : ∀ w1, KR (w.heap.size + 1 + 1) 9 26 Φ W1 w1 → Below w.heap.size w w1 := fun w1 h => hwc.trans ((hbut w1 h).below (by omega) (fun k h e => by omega))
  have q : ∀ w1, KR (w.heap.size + 1 + 1) 9 26 Φ W1 w1 → w1.heap[w.heap.size]? = some (.cells #[.int .u8 tos, .int .u16 id, .bool keep, .int .u8 ttl, .int .u8 proto, .int .u32 src, .int .u32 dst, .slice ao zo.length coo, sd] 26) := fun w1 h => ((hbut w1 h).block w.heap.size (by omega) (by omega)).trans pW
  have q0 : ∀ w1, KR (w.heap.size + 1 + 1) 9 26 Φ W1 w1 → w1.cell? ⟨w.heap.size, 0, none⟩ = some (.int .u8 tos) := fun w1 h => block_cell (q w1 h) 0
  have q1 : ∀ w1, KR (w.heap.size + 1 + 1) 9 26 Φ W1 w1 → w1.cell? ⟨w.heap.size, 1, none⟩ = some (.int .u16 id) := fun w1 h => block_cell (q w1 h) 1
  have q2 : ∀ w1, KR (w.heap.size + 1 + 1) 9 26 Φ W1 w1 → w1.cell? ⟨w.heap.size, 2, none⟩ = some (.bool keep) := fun w1 h => block_cell (q w1 h) 2
  have q3 : ∀ w1, KR (w.heap.size + 1 + 1) 9 26 Φ W1 w1 → w1.cell? ⟨w.heap.size, 3, none⟩ = some (.int .u8 ttl) := fun w1 h => block_cell (q w1 h) 3
  have q4 : ∀ w1, KR (w.heap.size + 1 + 1) 9 26 Φ W1 w1 → w1.cell? ⟨w.heap.size, 4, none⟩ = some (.int .u8 proto) := fun w1 h => block_cell (q w1 h) 4
  have q5 : ∀ w1, KR (w.heap.size + 1 + 1) 9 26 Φ W1 w1 → w1.cell? ⟨w.heap.size, 5, none⟩ = some (.int .u32 src) := fun w1 h => block_cell (q w1 h) 5
  have q6 : ∀ w1, KR (w.heap.size + 1 + 1) 9 26 Φ W1 w1 → w1.cell? ⟨w.heap.size, 6, none⟩ = some (.int .u32 dst) := fun w1 h => block_cell (q w1 h) 6
  have q7 : ∀ w1, KR (w.heap.size + 1 + 1) 9 26 Φ W1 w1 → w1.cell? ⟨w.heap.size, 7, none⟩ = some (.slice ao zo.length coo) := fun w1 h => block_cell (q w1 h) 7
  have q8 : ∀ w1, KR (w.heap.size + 1 + 1) 9 26 Φ W1 w1 → w1.cell? ⟨w.heap.size, 8, none⟩ = some (sd) := fun w1 h => block_cell (q w1 h) 8
  have hr : ∀ w1, KR (w.heap.size + 1 + 1) 9 26 Φ W1 w1 → Ow (w.heap.size + 3) w1 (.slice ab (8 + zd.length) cb) (icm0 ty cde rest zd) := fun w1 h => hOb.but (hbut w1 h) (fun b h e => by omega)
  refine rV (Keep.pre _ _ _) 0 rfl rfl ?_; apply Exists.intro; refine ⟨fun w1 hw1 => ?_, ?_⟩; (· (go_simp; rfl)); simp only [Act.put, sA, sB, sC]
  refine rV (Keep.pre _ _ _) 1 rfl rfl ?_; apply Exists.intro; refine ⟨fun w1 hw1 => ?_, ?_⟩; (· (go_simp; rfl)); simp only [Act.put, sA, sB, sC]
  refine rV (Keep.pre _ _ _) 2 rfl rfl ?_; apply Exists.intro; refine ⟨fun w1 hw1 => ?_, ?_⟩; (· (go_simp; rfl)); simp only [Act.put, sA, sB, sC]
  refine anyR_take (Keep.pre _ _ _) 3 (.int .u16 (Mt.cks (icm0 ty cde rest zd))) rfl (by kernel_rfl) (by kernel_rfl) (by kernel_rfl) (fun _ _ _ h => h) rfl (fun w1 hw1 => goes_call 59 #[.slice ab (8 + zd.length) cb] (by go_simp) ?_) ?_
  ·exact (sum_any _ (icm0 ty cde rest zd) hBi (by have := HLi.out; omega) w1 (hr w1 hw1).rd).mono fun e w' ⟨he, hb⟩ => ⟨he, KR.of hΦ hb⟩
  simp only [Act.put, sA, sB, sC]
  refine anyR_one 4 rfl (by kernel_rfl) rfl (fun W2 hW2 => ?_)
  refine wp_enter 58 #[.slice ab (8 + zd.length) cb, .int .i64 2, .int .u16 (Mt.cks (icm0 ty cde rest zd))] (by go_simp) ?_
  refine (put16_any _ (icm0 ty cde rest zd) 2 (Mt.cks (icm0 ty cde rest zd)) W2 (by have := HLi.out; omega) (hr W2 hW2).rd hcb).mono ?_
  rintro e W3 ⟨a3, rfl, hO3, hb3⟩
  rw [putAt2_lit _ 2 2 _ rfl (by have := HLi.out; omega), ← HIc.out, HLi.out] at hO3
  rw [HLi.out]
  have hW13 := hW2.trans (KR.of hΦ hb3)
  refine ⟨KR.of hΦ hb3, ?_⟩
  simp only [Act.put, sA, sB, sC]
  refine anyR_one 5 rfl (by kernel_rfl) rfl (fun W4 hW4 => ?_)
  have hW14 := hW13.trans hW4
  have hs2 : w.heap.size + 3 ≤ W2.heap.size := Nat.le_trans hsW (hbut W2 hW2).size
  have hs4 : w.heap.size + 3 ≤ W4.heap.size := Nat.le_trans hsW (hbut W4 hW14).size
  have hO4 := hO3.but hW4.1 (fun b h e => by omega)
  refine wp_enter 57 #[.agg #[.int .u8 tos, .int .u16 id, .bool keep, .int .u8 ttl, .int .u8 proto, .int .u32 src, .int .u32 dst, .slice ao zo.length coo, sd], .int .u8 1, .slice a3 (8 + zd.length) (8 + zd.length)] (by go_simp) ?_
  refine (cpacked_any tos id ttl proto src dst 1 keep _ _ _ zo (icm ty cde rest zd) W4 hBo ((hIo.below (hbel W4 hW14)).mono (hbel W4 hW14).size) hO4.rd h1 (by rw [icm_length]; omega) ht hid htt (by omega) hsr hds).mono ?_
  rw [icm_length]
  rintro e W5 ⟨hb5, ⟨hf, rfl⟩ | ⟨hf, ao5, co5, rfl, hO5⟩⟩
  ·have hW15 := hW14.trans (KR.of hΦ hb5)
   refine ⟨KR.of hΦ hb5, ?_⟩
   have HF := hide hf
   clear hf
   simp only [Act.put, sA, sB, sC]
   refine rV (Keep.pre _ _ _) 6 rfl rfl ?_; apply Exists.intro; refine ⟨fun w1 hw1 => ?_, ?_⟩; (· (go_simp; rfl)); simp only [Act.put, sA, sB, sC]
   refine rV (Keep.pre _ _ _) 7 rfl rfl ?_; apply Exists.intro; refine ⟨fun w1 hw1 => ?_, ?_⟩; (· (go_simp; rfl)); simp only [Act.put, sA, sB, sC]
   refine anyR_one 8 rfl (by kernel_rfl) rfl (fun W6 hW6 => ?_)
   have hW16 := hW15.trans hW6
   have hg6 := hW16.2.1 hg1
   have hg6' := hg6
   obtain ⟨cur, hcur, hsz⟩ := hg6'
   have k6 : ∀ j, W6.cell? ⟨w.heap.size + 1 + 1, j, none⟩ = cur[j]? := block_cell hcur
   have f6 : ∀ j, W6.frozen? ⟨w.heap.size + 1 + 1, j, none⟩ = false := block_frozen hcur
   unfold Oper.wp
   go_simp
   generalize hV7 : ((((((((W6.setCell ⟨w.heap.size + 1 + 1, 0, none⟩ _).setCell ⟨w.heap.size + 1 + 1, 1, none⟩ _).setCell ⟨w.heap.size + 1 + 1, 2, none⟩ _).setCell ⟨w.heap.size + 1 + 1, 3, none⟩ _).setCell ⟨w.heap.size + 1 + 1, 4, none⟩ _).setCell ⟨w.heap.size + 1 + 1, 5, none⟩ _).setCell ⟨w.heap.size + 1 + 1, 6, none⟩ _).setCell ⟨w.heap.size + 1 + 1, 7, none⟩ _).setCell ⟨w.heap.size + 1 + 1, 8, none⟩ _ = V7
   have hV8 : V7 = putRow W6 (w.heap.size + 1 + 1) 0 zcc := hV7.symm
   have hSt := KR.store (Φ := Φ) zcc hg6 rfl (by rw [HΦ.out]; exact .inl ⟨HF.out, rfl⟩)
   rw [← hV8] at hSt
   clear hV7 hV8 k6 f6
   refine ⟨hSt.1, ?_⟩
   refine rV (Keep.pre _ _ _) 9 rfl rfl ?_; apply Exists.intro; refine ⟨fun w1 hw1 => ?_, ?_⟩; (· (go_simp; rfl)); simp only [Act.put, sA, sB, sC]
   refine anyR_done (by kernel_rfl) (fun W8 hW8 => ?_)
   obtain ⟨arr, hh8, hP8⟩ := hW8.2.2 hSt.2
   have hw8 := hbel W8 ((hW16.trans hSt.1).trans hW8)
   clear hSt q q0 q1 q2 q3 q4 q5 q6 q7 q8 hr hbut
   rw [HΦ.out] at hP8
   rcases hP8 with ⟨hf8, rfl⟩ | ⟨hf8, ao8, co8, ad8, cd8, rfl, hO8, hD8⟩
   ·have r8 := block_cell hh8
    go_wp2_with fail
    exact bodyPost_ret (v := .tuple #[.agg zcc.toArray, .int .i64 (flt zo.length (8 + zd.length))]) (by simp [results, Tryz.results19, go_sem, r8]) rfl ⟨hw8, .inl ⟨hf8, rfl⟩⟩
   ·exact absurd hf8 HF.out
  ·have hW15 := hW14.trans (KR.of hΦ hb5)
   refine ⟨KR.of hΦ hb5, ?_⟩
   have HF := hide hf
   clear hf
   simp only [Act.put, sA, sB, sC]
   refine rV (Keep.pre _ _ _) 6 rfl rfl ?_; apply Exists.intro; refine ⟨fun w1 hw1 => ?_, ?_⟩; (· (go_simp; rfl)); simp only [Act.put, sA, sB, sC]
   refine rV (Keep.pre _ _ _) 7 rfl rfl ?_; apply Exists.intro; refine ⟨fun w1 hw1 => ?_, ?_⟩; (· (go_simp; rfl)); simp only [Act.put, sA, sB, sC]
   refine anyR_one 8 rfl (by kernel_rfl) rfl (fun W6 hW6 => ?_)
   have hW16 := hW15.trans hW6
   have hg6 := hW16.2.1 hg1
   have hg6' := hg6
   obtain ⟨cur, hcur, hsz⟩ := hg6'
   have k6 : ∀ j, W6.cell? ⟨w.heap.size + 1 + 1, j, none⟩ = cur[j]? := block_cell hcur
   have f6 : ∀ j, W6.frozen? ⟨w.heap.size + 1 + 1, j, none⟩ = false := block_frozen hcur
   unfold Oper.wp
   go_simp
   generalize hV7 : ((((((((W6.setCell ⟨w.heap.size + 1 + 1, 0, none⟩ _).setCell ⟨w.heap.size + 1 + 1, 1, none⟩ _).setCell ⟨w.heap.size + 1 + 1, 2, none⟩ _).setCell ⟨w.heap.size + 1 + 1, 3, none⟩ _).setCell ⟨w.heap.size + 1 + 1, 4, none⟩ _).setCell ⟨w.heap.size + 1 + 1, 5, none⟩ _).setCell ⟨w.heap.size + 1 + 1, 6, none⟩ _).setCell ⟨w.heap.size + 1 + 1, 7, none⟩ _).setCell ⟨w.heap.size + 1 + 1, 8, none⟩ _ = V7
   have hV8 : V7 = putRow W6 (w.heap.size + 1 + 1) 0 [.int .u8 tos, .int .u16 id, .bool keep, .int .u8 ttl, .int .u8 1, .int .u32 src, .int .u32 dst, .slice ao5 zo.length co5, .slice a3 (8 + zd.length) (8 + zd.length)] := hV7.symm
   have hSt := KR.store (Φ := Φ) [.int .u8 tos, .int .u16 id, .bool keep, .int .u8 ttl, .int .u8 1, .int .u32 src, .int .u32 dst, .slice ao5 zo.length co5, .slice a3 (8 + zd.length) (8 + zd.length)] hg6 rfl (by rw [HΦ.out]; exact .inr ⟨HF.out, ao5, co5, a3, 8 + zd.length, rfl, ((hO5.but hW6.1 (fun b h e => by omega)).but (putRow_rb (rb := w.heap.size + 1 + 1) _ _) (fun b h e => by omega)).mono (by omega), (((hO4.later hb5).but hW6.1 (fun b h e => by omega)).but (putRow_rb (rb := w.heap.size + 1 + 1) _ _) (fun b h e => by omega)).mono (by omega)⟩)
   rw [← hV8] at hSt
   clear hV7 hV8 k6 f6
   refine ⟨hSt.1, ?_⟩
   refine rV (Keep.pre _ _ _) 9 rfl rfl ?_; apply Exists.intro; refine ⟨fun w1 hw1 => ?_, ?_⟩; (· (go_simp; rfl)); simp only [Act.put, sA, sB, sC]
   refine anyR_done (by kernel_rfl) (fun W8 hW8 => ?_)
   obtain ⟨arr, hh8, hP8⟩ := hW8.2.2 hSt.2
   have hw8 := hbel W8 ((hW16.trans hSt.1).trans hW8)
   clear hSt q q0 q1 q2 q3 q4 q5 q6 q7 q8 hr hbut
   rw [HΦ.out] at hP8
   rcases hP8 with ⟨hf8, rfl⟩ | ⟨hf8, ao8, co8, ad8, cd8, rfl, hO8, hD8⟩
   ·exact absurd HF.out hf8
   ·have r8 := block_cell hh8
    go_wp2_with fail
    exact bodyPost_ret (v := .tuple #[.agg #[.int .u8 tos, .int .u16 id, .bool keep, .int .u8 ttl, .int .u8 1, .int .u32 src, .int .u32 dst, .slice ao8 zo.length co8, .slice ad8 (8 + zd.length) cd8], .int .i64 0]) (by simp [results, Tryz.results19, go_sem, r8]) rfl ⟨hw8, .inr ⟨hf8, ao8, co8, ad8, cd8, rfl, hO8.mono (by omega), hD8.mono (by omega)⟩⟩
end Go.Proofs.YtghpakfjpdifaaaGreatDoor
