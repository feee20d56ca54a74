/- The walk of the law Ipv4Cuts. -/
import Derived.Test.YtiigmhddnaocoacVR
import Derived.Test.YtiigmhddnaocoacMh
namespace Go.Proofs.Ytiigmhddnaocoac
open Go.RowKit Go.Shelf
set_option linter.unusedVariables false
set_option linter.unusedSimpArgs false

theorem same_zero (w : World) : Calls Try.prog 15 #[.agg zc.toArray, .agg zc.toArray] w fun e w' => e = .returned (.bool true) ∧ Below w.heap.size w w' :=
  (rsame_any 0 0 0 0 0 0 0 0 0 0 0 0 false false (.slice none 0 0) (.slice none 0 0) (.slice none 0 0) (.slice none 0 0) [] [] [] [] w Mt.By.nil Mt.By.nil Mt.By.nil Mt.By.nil (rd_zero w) (rd_zero w) (rd_zero w) (rd_zero w)).mono fun e w' ⟨he, hb⟩ => ⟨he, hb⟩

/-- The bytes of a right packet. -/
theorem bb_by (tos id ttl proto src dst : Int) (keep : Bool) (zo zd : List Int) (hBo : Mt.By zo) (hBd : Mt.By zd) (hv : zo.length ≤ 40 ∧ zo.length % 4 = 0 ∧ 20 + zo.length + zd.length ≤ 65535)
    (ht : 0 ≤ tos ∧ tos ≤ 255) (hid : 0 ≤ id ∧ id ≤ 65535) (htt : 0 ≤ ttl ∧ ttl ≤ 255) (hpr : 0 ≤ proto ∧ proto ≤ 255) (hsr : 0 ≤ src ∧ src ≤ 4294967295) (hds : 0 ≤ dst ∧ dst ≤ 4294967295) :
    Mt.By (h20 tos id keep ttl proto src dst zo.length (20 + zo.length + zd.length) 0 ++ zo) ∧ Mt.By (hdr tos id keep ttl proto src dst zo (20 + zo.length + zd.length) ++ zd) := by
  refine ⟨(h20_by tos id keep ttl proto src dst zo.length (20 + zo.length + zd.length) 0 hv.1 ht hid htt hpr hsr hds (by omega) (by omega)).append hBo, ?_⟩
  rw [hdr_eq]
  exact ((h20_by tos id keep ttl proto src dst zo.length (20 + zo.length + zd.length) _ hv.1 ht hid htt hpr hsr hds (by omega) (Mt.cks_bd _)).append hBo).append hBd
theorem flt_fit {lo ld : Nat} (hf : flt lo ld = 0) : lo ≤ 40 ∧ lo % 4 = 0 ∧ 20 + lo + ld ≤ 65535 := by
  unfold flt at hf
  split at hf <;> first | omega | (split at hf <;> omega)

set_option maxHeartbeats 4000000 in
theorem walk_Ipv4Cuts (w : World) (tos id ttl proto src dst : Int) (keep : Bool) (so sd : Value) (zo zd : List Int) (hBo : Mt.By zo) (hBd : Mt.By zd) (hIo : Rd w.heap.size w so zo) (hId : Rd w.heap.size w sd zd) (hlo : zo.length ≤ 140737488355328) (hld : zd.length ≤ 140737488355328)
    (ht : 0 ≤ tos ∧ tos ≤ 255) (hid : 0 ≤ id ∧ id ≤ 65535) (htt : 0 ≤ ttl ∧ ttl ≤ 255) (hpr : 0 ≤ proto ∧ proto ≤ 255) (hsr : 0 ≤ src ∧ src ≤ 4294967295) (hds : 0 ≤ dst ∧ dst ≤ 4294967295)
    (n : Int) (hn : 0 ≤ n ∧ n ≤ 65535) :
    Calls Try.prog 6 #[.agg #[.int .u8 tos, .int .u16 id, .bool keep, .int .u8 ttl, .int .u8 proto, .int .u32 src, .int .u32 dst, so, sd], .int .u16 n] w fun e w' => e = .returned (.bool true) ∧ Below w.heap.size w w' := by
  obtain ⟨ao, co, rfl, hl1, hm1⟩ := hIo.slice
  obtain ⟨ad, cd, rfl, hl2, hm2⟩ := hId.slice
  have hbox : Below w.heap.size w (w.alloc (.cells #[.int .u8 tos, .int .u16 id, .bool keep, .int .u8 ttl, .int .u8 proto, .int .u32 src, .int .u32 dst, .slice ao zo.length co, .slice ad zd.length cd] 26)) := (Below.refl _ _).alloc (Nat.le_refl _) _
  have hcell := cell_new w #[.int .u8 tos, .int .u16 id, .bool keep, .int .u8 ttl, .int .u8 proto, .int .u32 src, .int .u32 dst, .slice ao zo.length co, .slice ad zd.length cd] 26
  have hsz : (w.alloc (.cells #[.int .u8 tos, .int .u16 id, .bool keep, .int .u8 ttl, .int .u8 proto, .int .u32 src, .int .u32 dst, .slice ao zo.length co, .slice ad zd.length cd] 26)).heap.size = w.heap.size + 1 := by simp
  by_cases hf : flt zo.length zd.length = 0
  · have hv := flt_fit hf
    have H8 := hide hcell
    clear hcell hf
    go_enter Try.func6, Try.ntmps6
    go_wp2_with fail
    refine (build_yes tos id ttl proto src dst keep _ _ zo zd _ hBo ((hIo.below hbox).mono (by simp)) ((hId.below hbox).mono (by simp)) hv.1 hv.2.1 hv.2.2 ht hid htt hpr hsr hds).mono ?_
    rintro e w1 ⟨v1, rfl, hO1, hb1⟩
    obtain ⟨hBh, hBb⟩ := bb_by tos id ttl proto src dst keep zo zd hBo hBd hv ht hid htt hpr hsr hds
    have hlen : (hdr tos id keep ttl proto src dst zo (20 + zo.length + zd.length) ++ zd).length = 20 + zo.length + zd.length := by rw [List.length_append, hdr_len]
    have hcut := fun m hm => rde_cut tos id keep ttl proto src dst zo zd m hv.1 hv.2.1 hm
    generalize hdr tos id keep ttl proto src dst zo (20 + zo.length + zd.length) ++ zd = bb at *
    have Hcut := hide hcut
    clear hcut
    have hI1 := hO1.rd
    obtain ⟨a1, cap1, rfl, hl3, hm3⟩ := hO1.slice
    rw [hlen] at hl3 hI1 hO1 ⊢
    have hw1 := hbox.trans (hb1.mono (by simp))
    have b7 : w1.cell? ⟨w.heap.size, 7, none⟩ = some (.slice ao zo.length co) := (hb1.cell (p := ⟨w.heap.size, 7, none⟩) (by simp)).trans (H8.out 7)
    have t1 : ¬ ((20 + zo.length + zd.length : Nat) : Int) < 20 + zo.length := by omega
    clear H8
    have t2 : ¬ ((20 + zo.length + zd.length : Nat) : Int) = 0 := by omega
    have t4 : 20 + zo.length + zd.length ≤ 65535 := hv.2.2
    generalize hN : 20 + zo.length + zd.length = N at *
    have HN := hide hN
    clear hN
    obtain ⟨k, hk⟩ := Int.eq_ofNat_of_zero_le hn.1
    subst hk
    have hkN : k % N < N := Nat.mod_lt _ (by omega)
    have u1 : (k : Int) % (N : Int) = ((k % N : Nat) : Int) := by omega
    generalize k % N = j at *
    have u2 : (j : Int) ≤ cap1 := by omega
    have u3 : j ≤ cap1 := by omega
    go_wp2_with fail
    refine (parse_any _ (bb.take j) w1 (hBb.take _) (by simp; omega) (hI1.take j (by omega))).mono ?_
    have h3 := Hcut.out j hkN
    rw [h3]
    rintro e w2 ⟨hb2, ⟨_, rfl⟩ | ⟨h, _⟩⟩
    · have hw2 := hw1.trans (hb2.mono hw1.size)
      go_wp2_with fail
      refine (live2_any _).mono ?_
      rintro e w3 ⟨rfl, hb3⟩
      have hA := (Below.refl w2.heap.size w2).alloc (Nat.le_refl _) (.cells zc.toArray 26)
      have c3 : ∀ i, w3.cell? ⟨w2.heap.size, i, none⟩ = zc.toArray[i]? := fun i => (hb3.cell (p := ⟨w2.heap.size, i, none⟩) (by simp)).trans (cell_new w2 _ _ i)
      have hw3 := (hw2.trans (hA.mono hw2.size)).trans (hb3.mono (by have := hw2.size; simp; omega))
      go_wp2_with fail
      refine (same_zero _).mono ?_
      rintro e w4 ⟨rfl, hb4⟩
      go_wp2
      go_ret
      exact ⟨rfl, hw3.trans (hb4.mono hw3.size)⟩
    · omega
  · have hf' : (flt zo.length zd.length != 0) = true := by simp [hf]
    go_enter Try.func6, Try.ntmps6
    go_wp2_with fail
    refine (build_no tos id ttl proto src dst keep ao ad zo.length co zd.length cd _ hlo hld hf).mono ?_
    rintro e w1 ⟨rfl, hb1⟩
    clear hf hcell
    go_wp2_with fail
    refine (live2_any _).mono ?_
    rintro e w2 ⟨rfl, hb2⟩
    go_wp2
    go_ret
    have hw1 := hbox.trans (hb1.mono (by simp))
    exact ⟨rfl, hw1.trans (hb2.mono hw1.size)⟩
end Go.Proofs.Ytiigmhddnaocoac
