/- Package segs: what the check sum is reckoned of; a datagram's check sum. -/
import Derived.Deep.DeepCutAuto
import Derived.Deep.CutBlock
import Derived.Test.YtghpakfjpdifaaaGreatDoorW8
import Derived.Test.YtghpakfjpdifaaaGreatDoorCA
import Derived.Test.YtghpakfjpdifaaaGreatDoorRt
namespace Go.Proofs.YtghpakfjpdifaaaGreatDoor
open Go.RowKit Go.Shelf
set_option maxRecDepth 100000
set_option linter.unusedVariables false
set_option linter.unusedSimpArgs false

theorem psd_length (s d p n : Int) : (psd s d p n).length = 12 := rfl
theorem By_psd (s d p n : Int) (hs : 0 ≤ s ∧ s ≤ 4294967295) (hd : 0 ≤ d ∧ d ≤ 4294967295) (hp : 0 ≤ p ∧ p ≤ 255) : Mt.By (psd s d p n) := by
 unfold psd
 exact .mk (by omega) (.mk (by omega) (.mk (by omega) (.mk (by omega) (.mk (by omega) (.mk (by omega) (.mk (by omega) (.mk (by omega) (.mk (by omega) (.mk (by omega) (.mk (by omega) (.mk (by omega) .nil)))))))))))

set_option maxHeartbeats 2000000 in
theorem summed_any (tos id ttl proto src dst : Int) (keep : Bool) (so sd : Value) (zd : List Int) (w : World) (hI : Rd w.heap.size w sd zd) (hl : 12 + zd.length ≤ 140737488355328) (hsr : 0 ≤ src ∧ src ≤ 4294967295) (hds : 0 ≤ dst ∧ dst ≤ 4294967295) :
  Calls Tryz.prog 123 #[.agg #[.int .u8 tos, .int .u16 id, .bool keep, .int .u8 ttl, .int .u8 proto, .int .u32 src, .int .u32 dst, so, sd]] w fun e w' => ∃ a c, e = .returned (.slice a (12 + zd.length) c) ∧ Ow w.heap.size w' (.slice a (12 + zd.length) c) (psd src dst proto zd.length ++ zd) ∧ Below w.heap.size w w' := by
 obtain ⟨i0, hi, hz0, hz1, hz2⟩ := info_parts info_u8
 obtain ⟨ad, cd, rfl, hl1, hm1⟩ := hI.slice
 have hb0 : Below w.heap.size w (w.alloc (.cells #[.int .u8 tos, .int .u16 id, .bool keep, .int .u8 ttl, .int .u8 proto, .int .u32 src, .int .u32 dst, so, .slice ad zd.length cd] 26)) := (Below.refl _ _).alloc (Nat.le_refl _) _
 have p0 := heap_alloc_new w (.cells #[.int .u8 tos, .int .u16 id, .bool keep, .int .u8 ttl, .int .u8 proto, .int .u32 src, .int .u32 dst, so, .slice ad zd.length cd] 26)
 have P0 := hide p0
 clear p0
 go_enter Tryz.func123, Tryz.ntmps123
 go_upto_region 1 with fail
 generalize w.alloc (.cells #[.int .u8 tos, .int .u16 id, .bool keep, .int .u8 ttl, .int .u8 proto, .int .u32 src, .int .u32 dst, so, .slice ad zd.length cd] 26) = W0 at *
 refine anyT_begin (R := Later) 14 rfl (by kernel_rfl) ?_
 have hd : Later W0 W0.drew := Later.drew W0
 have qp : ∀ v1, Later W0.drew v1 → ∀ i, v1.cell? ⟨w.heap.size, i, none⟩ = #[Value.int .u8 tos, .int .u16 id, .bool keep, .int .u8 ttl, .int .u8 proto, .int .u32 src, .int .u32 dst, so, .slice ad zd.length cd][i]? := fun v1 h => block_cell (((hd.trans h).block w.heap.size (bl9 P0.out)).trans P0.out)
 have hbd := hb0.trans (hd.mono hb0.size)
 generalize W0.drew = W1 at *
 refine tV Later.pre 0 rfl rfl ?_; apply Exists.intro; refine ⟨fun v1 hv1 => ?_, ?_⟩; (· (go_simp; rfl)); simp only [Act.put, sA, sB, sC]
 refine tV Later.pre 1 rfl rfl ?_; apply Exists.intro; refine ⟨fun v1 hv1 => ?_, ?_⟩; (· (go_simp; rfl)); simp only [Act.put, sA, sB, sC]
 refine tV Later.pre 2 rfl rfl ?_; apply Exists.intro; refine ⟨fun v1 hv1 => ?_, ?_⟩; (· (go_simp; rfl)); simp only [Act.put, sA, sB, sC]
 refine tV Later.pre 3 rfl rfl ?_; apply Exists.intro; refine ⟨fun v1 hv1 => ?_, ?_⟩; (· (go_simp; rfl)); simp only [Act.put, sA, sB, sC]
 refine tV Later.pre 4 rfl rfl ?_; apply Exists.intro; refine ⟨fun v1 hv1 => ?_, ?_⟩; (· (go_simp; rfl)); simp only [Act.put, sA, sB, sC]
 refine tV Later.pre 5 rfl rfl ?_; apply Exists.intro; refine ⟨fun v1 hv1 => ?_, ?_⟩; (· (go_simp; rfl)); simp only [Act.put, sA, sB, sC]
 refine tV Later.pre 6 rfl rfl ?_; apply Exists.intro; refine ⟨fun v1 hv1 => ?_, ?_⟩; (· (go_simp; rfl)); simp only [Act.put, sA, sB, sC]
 refine tV Later.pre 7 rfl rfl ?_; apply Exists.intro; refine ⟨fun v1 hv1 => ?_, ?_⟩; (· (go_simp; rfl)); simp only [Act.put, sA, sB, sC]
 refine tV Later.pre 8 rfl rfl ?_; apply Exists.intro; refine ⟨fun v1 hv1 => ?_, ?_⟩; (· (go_simp; rfl)); simp only [Act.put, sA, sB, sC]
 refine tV Later.pre 10 rfl rfl ?_; apply Exists.intro; refine ⟨fun v1 hv1 => ?_, ?_⟩; (· (go_simp; rfl)); simp only [Act.put, sA, sB, sC]
 refine tV Later.pre 11 rfl rfl ?_; apply Exists.intro; refine ⟨fun v1 hv1 => ?_, ?_⟩; (· (go_simp; rfl)); simp only [Act.put, sA, sB, sC]
 refine anyT_one 9 rfl (by kernel_rfl) rfl ?_
 refine wp_enter 128 #[.int .u32 src, .int .u32 dst, .int .u8 proto, .int .i64 zd.length] (by go_simp) ?_
 refine (pseudo_any src dst proto zd.length hsr hds W1).mono ?_
 rintro e w2 ⟨a2, rfl, hO2, hb2⟩
 refine ⟨hb2, ?_⟩
 simp only [Act.put, sA, sB, sC]
 have hw2 := hbd.trans (hb2.mono hbd.size)
 obtain ⟨v3, w3, hr3, hO3, hb3⟩ := run_app_ow (P := Tryz.prog) w2 24 24 W1.heap.size i0 Tryz.underlying24 hi hz0 hz1 hz2 a2 12 _ hO2 (by simp [psd]) w.heap.size _ zd (hI.below hw2) (by rw [psd_length]; omega) hb2.size
 refine anyT_one 12 rfl (by kernel_rfl) rfl ?_
 obtain ⟨a3, c3, rfl, _, _⟩ := hO3.slice
 rw [List.length_append, psd_length] at hr3 hO3
 refine wp_app (.tmp 12) (.tmp 14) 24 rfl _ _ rfl rfl _ w3 hr3 ⟨hb3, ?_⟩
 simp only [Act.put, sA, sB, sC]
 clear qp
 refine tV Later.pre 13 rfl rfl ?_; apply Exists.intro; refine ⟨fun v1 hv1 => ?_, ?_⟩; (· (go_simp; rfl)); simp only [Act.put, sA, sB, sC]
 refine anyT_done (by kernel_rfl) ?_
 go_wp2_with fail
 go_ret
 exact ⟨a3, c3, rfl, hO3.mono hbd.size, hw2.trans (hb3.mono hw2.size)⟩

/-- A datagram's check sum: never 0. -/
def usm (s d p : Int) (zs : List Int) : Int := if Mt.cks (psd s d p zs.length ++ zs) = 0 then 65535 else Mt.cks (psd s d p zs.length ++ zs)
theorem usm_bd (s d p : Int) (zs : List Int) : 1 ≤ usm s d p zs ∧ usm s d p zs ≤ 65535 := by
 have := Mt.cks_bd (psd s d p zs.length ++ zs)
 unfold usm
 split <;> omega

end Go.Proofs.YtghpakfjpdifaaaGreatDoor
