/- Several texts in one. -/
import Derived.Test.YtghpakfjpdifaaaGreatDoorX3
import Derived.Test.YtghpakfjpdifaaaGreatDoorX6
import Derived.Test.YtghpakfjpdifaaaGreatDoorX4
import Derived.Test.YtghpakfjpdifaaaGreatDoorX9
import Derived.Test.YtghpakfjpdifaaaGreatDoorCD
import Derived.Test.YtghpakfjpdifaaaGreatDoorX5
/- Mathematics: a whole packet that is quoted has a good check sum still when it is patched, and tells what the document's Rewrite makes of it. -/
namespace Go.Proofs.YtghpakfjpdifaaaGreatDoor
open Go.RowKit Go.Shelf
set_option maxRecDepth 100000
set_option linter.unusedVariables false
set_option linter.unusedSimpArgs false

theorem opts_ok : ∀ (n : Nat) (zs : List Int) (os : List Opt), zs.length ≤ n → opts zs = some os → (∀ o ∈ os, okO o) ∧ (obs os).length ≤ zs.length
 | 0, zs, os, h, e => by
  obtain rfl : zs = [] := by cases zs <;> simp_all
  rw [opts_nil] at e
  cases e
  exact ⟨fun o ho => (by cases ho), by simp [obs]⟩
 | n + 1, [], os, _, e => by
  rw [opts_nil] at e
  cases e
  exact ⟨fun o ho => (by cases ho), by simp [obs]⟩
 | n + 1, k :: r, os, h, e => by
  by_cases h0 : k = 0
  ·subst h0
   rw [opts_zero] at e
   split at e
   ·cases e
    exact ⟨fun o ho => (by cases ho), by simp [obs]⟩
   ·cases e
  by_cases h1 : k = 1
  ·subst h1
   rw [opts_one] at e
   cases hr : opts r with
   | none => rw [hr] at e; cases e
   | some l =>
    rw [hr] at e
    cases e
    obtain ⟨g1, g2⟩ := opts_ok n r l (by simp at h; omega) hr
    refine ⟨fun o ho => ?_, ?_⟩
    ·rcases List.mem_cons.1 ho with rfl | ho
     ·exact ⟨by simp, fun _ => rfl⟩
     ·exact g1 o ho
    ·rw [obs_cons, List.length_append, ob1_length, show osz (1, []) = 1 from rfl]
     simp
     omega
  cases r with
  | nil => rw [opts_bare k h0 h1] at e; cases e
  | cons s r =>
   by_cases hw : s < 2 ∨ (r.length : Int) + 2 < s
   ·rw [opts_wrong k s r h0 h1 hw] at e; cases e
   ·have h2 : 2 ≤ s := by omega
    have h3 : s ≤ (r.length : Int) + 2 := by omega
    rw [opts_more k s r h0 h1 h2 h3] at e
    cases hr : opts (r.drop (s.toNat - 2)) with
    | none => rw [hr] at e; cases e
    | some l =>
     rw [hr] at e
     cases e
     obtain ⟨g1, g2⟩ := opts_ok n (r.drop (s.toNat - 2)) l (by simp at h ⊢; omega) hr
     refine ⟨fun o ho => ?_, ?_⟩
     ·rcases List.mem_cons.1 ho with rfl | ho
      ·exact ⟨h0, fun e => absurd e h1⟩
      ·exact g1 o ho
     ·rw [List.length_drop] at g2
      rw [obs_cons, List.length_append, ob1_length]
      unfold osz
      rw [if_neg h1]
      simp only [List.length_take, List.length_cons]
      omega

theorem ptv_mod (s o n : Int) (hs : 0 ≤ s ∧ s ≤ 65535) (ho : 0 ≤ o ∧ o ≤ 65535) (hn : 0 ≤ n ∧ n ≤ 65535) : (ptv s o n - s - o + n) % 65535 = 0 := by
 unfold ptv Mt.fd
 split <;> omega
theorem ptch_mod (u : Un) (c : Int) (hc : 0 ≤ c ∧ c ≤ 65535) (hu : UOk u) (hw : UOw u) : (ptch u c - c - (u.s1 / 65536 + u.s1 % 65536 + u.d1 / 65536 + u.d1 % 65536 + u.a1 + u.b1) + (u.s / 65536 + u.s % 65536 + u.d / 65536 + u.d % 65536 + u.a + u.b)) % 65535 = 0 := by
 obtain ⟨hs, hd, ha, hb⟩ := hu
 obtain ⟨hs1, hd1, ha1, hb1⟩ := hw
 unfold ptch
 have b0 := pk_bd (wd6 u.s1 u.d1 u.a1 u.b1) (wd6 u.s u.d u.a u.b) c hc 0
 have b1 := pk_bd (wd6 u.s1 u.d1 u.a1 u.b1) (wd6 u.s u.d u.a u.b) c hc 1
 have b2 := pk_bd (wd6 u.s1 u.d1 u.a1 u.b1) (wd6 u.s u.d u.a u.b) c hc 2
 have b3 := pk_bd (wd6 u.s1 u.d1 u.a1 u.b1) (wd6 u.s u.d u.a u.b) c hc 3
 have b4 := pk_bd (wd6 u.s1 u.d1 u.a1 u.b1) (wd6 u.s u.d u.a u.b) c hc 4
 have b5 := pk_bd (wd6 u.s1 u.d1 u.a1 u.b1) (wd6 u.s u.d u.a u.b) c hc 5
 have m0 : (pk (wd6 u.s1 u.d1 u.a1 u.b1) (wd6 u.s u.d u.a u.b) c 1 - pk (wd6 u.s1 u.d1 u.a1 u.b1) (wd6 u.s u.d u.a u.b) c 0 - u.s1 / 65536 + u.s / 65536) % 65535 = 0 := ptv_mod (pk (wd6 u.s1 u.d1 u.a1 u.b1) (wd6 u.s u.d u.a u.b) c 0) (u.s1 / 65536) (u.s / 65536) b0 (by omega) (by omega)
 have m1 : (pk (wd6 u.s1 u.d1 u.a1 u.b1) (wd6 u.s u.d u.a u.b) c 2 - pk (wd6 u.s1 u.d1 u.a1 u.b1) (wd6 u.s u.d u.a u.b) c 1 - u.s1 % 65536 + u.s % 65536) % 65535 = 0 := ptv_mod (pk (wd6 u.s1 u.d1 u.a1 u.b1) (wd6 u.s u.d u.a u.b) c 1) (u.s1 % 65536) (u.s % 65536) b1 (by omega) (by omega)
 have m2 : (pk (wd6 u.s1 u.d1 u.a1 u.b1) (wd6 u.s u.d u.a u.b) c 3 - pk (wd6 u.s1 u.d1 u.a1 u.b1) (wd6 u.s u.d u.a u.b) c 2 - u.d1 / 65536 + u.d / 65536) % 65535 = 0 := ptv_mod (pk (wd6 u.s1 u.d1 u.a1 u.b1) (wd6 u.s u.d u.a u.b) c 2) (u.d1 / 65536) (u.d / 65536) b2 (by omega) (by omega)
 have m3 : (pk (wd6 u.s1 u.d1 u.a1 u.b1) (wd6 u.s u.d u.a u.b) c 4 - pk (wd6 u.s1 u.d1 u.a1 u.b1) (wd6 u.s u.d u.a u.b) c 3 - u.d1 % 65536 + u.d % 65536) % 65535 = 0 := ptv_mod (pk (wd6 u.s1 u.d1 u.a1 u.b1) (wd6 u.s u.d u.a u.b) c 3) (u.d1 % 65536) (u.d % 65536) b3 (by omega) (by omega)
 have m4 : (pk (wd6 u.s1 u.d1 u.a1 u.b1) (wd6 u.s u.d u.a u.b) c 5 - pk (wd6 u.s1 u.d1 u.a1 u.b1) (wd6 u.s u.d u.a u.b) c 4 - u.a1 + u.a) % 65535 = 0 := ptv_mod _ _ _ b4 ha1 ha
 have m5 : (pk (wd6 u.s1 u.d1 u.a1 u.b1) (wd6 u.s u.d u.a u.b) c 6 - pk (wd6 u.s1 u.d1 u.a1 u.b1) (wd6 u.s u.d u.a u.b) c 5 - u.b1 + u.b) % 65535 = 0 := ptv_mod _ _ _ b5 hb1 hb
 have e0 : pk (wd6 u.s1 u.d1 u.a1 u.b1) (wd6 u.s u.d u.a u.b) c 0 = c := rfl
 rw [e0] at m0
 generalize pk (wd6 u.s1 u.d1 u.a1 u.b1) (wd6 u.s u.d u.a u.b) c 1 = p1 at *
 generalize pk (wd6 u.s1 u.d1 u.a1 u.b1) (wd6 u.s u.d u.a u.b) c 2 = p2 at *
 generalize pk (wd6 u.s1 u.d1 u.a1 u.b1) (wd6 u.s u.d u.a u.b) c 3 = p3 at *
 generalize pk (wd6 u.s1 u.d1 u.a1 u.b1) (wd6 u.s u.d u.a u.b) c 4 = p4 at *
 generalize pk (wd6 u.s1 u.d1 u.a1 u.b1) (wd6 u.s u.d u.a u.b) c 5 = p5 at *
 generalize pk (wd6 u.s1 u.d1 u.a1 u.b1) (wd6 u.s u.d u.a u.b) c 6 = p6 at *
 clear b0 b1 b2 b3 b4 b5 e0 hs hd ha hb hs1 hd1 ha1 hb1 hc
 generalize u.s1 / 65536 = o0 at *
 generalize u.s1 % 65536 = o1 at *
 generalize u.d1 / 65536 = o2 at *
 generalize u.d1 % 65536 = o3 at *
 generalize u.s / 65536 = n0 at *
 generalize u.s % 65536 = n1 at *
 generalize u.d / 65536 = n2 at *
 generalize u.d % 65536 = n3 at *
 omega

theorem twp (zs : List Int) (k : Nat) (v : Int) (he : k % 2 = 0) (h : k + 1 < zs.length) : Mt.tw true (Mt.put2 zs k v) = Mt.tw true zs + v - wat zs k := Mt.tw_put2 zs k v he h
theorem tw_psd (s d p n : Int) (hs : 0 ≤ s) (hd : 0 ≤ d) (hn : 0 ≤ n) : Mt.tw true (psd s d p n) = s / 65536 + s % 65536 + d / 65536 + d % 65536 + p + n % 65536 := by
 simp [psd, Mt.tw]
 omega
theorem wat_tw {zs : List Int} (hB : Mt.By zs) (k : Nat) (he : k % 2 = 0) (h : k + 1 < zs.length) : wat zs k ≤ Mt.tw true zs := by
 have h1 := twp zs k 0 he h
 have h2 := Mt.tw_nonneg true _ (hB.put2 k (v := 0) (by omega))
 omega
theorem cks_zero {zs : List Int} : Mt.cks zs = 0 ↔ Mt.fd (Mt.tw true zs) = 65535 := by unfold Mt.cks; omega

theorem prt_w (a b : Int) (zs : List Int) (k : Nat) (h : 4 ≤ k) : wat (prt a b zs) k = wat zs k := wat_same (prt_other a b zs k h) (prt_other a b zs (k + 1) (by omega))
theorem tw_prt (a b : Int) (zs : List Int) (h : 4 ≤ zs.length) : Mt.tw true (prt a b zs) = Mt.tw true zs + a - wat zs 0 + b - wat zs 2 := by
 unfold prt
 rw [twp _ 2 b (by omega) (by rw [Mt.put2_length]; omega), twp zs 0 a (by omega) (by omega), wat_put2_other _ _ _ _ (by omega)]

/-- Segments. -/
theorem qsT_eq (u : Un) {zs : List Int} (h : 18 ≤ zs.length) : qsT u zs = Mt.put2 (prt u.a u.b zs) 16 (ptch u (wat zs 16)) := by
 unfold qsT
 rw [getAt2_lit _ 16 16 rfl (by rw [prt_length]; omega), prt_w _ _ _ _ (by omega), putAt2_lit _ 16 16 _ rfl (by rw [prt_length]; omega)]
theorem qsT_other (u : Un) {zs : List Int} (h : 18 ≤ zs.length) (j : Nat) (h4 : 4 ≤ j) (h2 : j ≠ 16) (h3 : j ≠ 17) : (qsT u zs)[j]? = zs[j]? := by
 rw [qsT_eq u h, Mt.put2_other _ _ _ _ (by omega) (by omega), prt_other _ _ _ _ h4]
theorem qsT_good {u : Un} {zs : List Int} (hB : Mt.By zs) (h20 : 20 ≤ zs.length) (hu : UOk u) (hw : UOw u) (ha1 : u.a1 = wat zs 0) (hb1 : u.b1 = wat zs 2) (hg : Mt.cks (psd u.s1 u.d1 6 zs.length ++ zs) = 0) : Mt.cks (psd u.s u.d 6 zs.length ++ qsT u zs) = 0 := by
 rw [cks_zero, tw_psd_app, tw_psd _ _ _ _ hw.1.1 hw.2.1.1 (by omega)] at hg
 obtain ⟨g1, g2⟩ := Mt.fd_eq _ hg
 have hBq : Mt.By (qsT u zs) := by
  have := qsD_by (pr := 6) (u := u) hB hu
  simpa [qsD] using this
 have hn := Mt.tw_nonneg true _ hBq
 have hp := ptch_mod u (wat zs 16) (wat_bd hB 16) hu hw
 rw [cks_zero, tw_psd_app, tw_psd _ _ _ _ hu.1.1 hu.2.1.1 (by omega)]
 rw [qsT_eq u (by omega), twp _ 16 _ (by omega) (by rw [prt_length]; omega), tw_prt _ _ _ (by omega), prt_w _ _ _ _ (by omega)] at hn ⊢
 rw [ha1, hb1] at hp
 refine Mt.fd_of _ ?_ ?_
 ·have := hu.1
  have := hu.2.1
  omega
 ·generalize ptch u (wat zs 16) = pp at *
  omega
theorem pte_like {src dst s d : Int} {zs x : List Int} (hp : pte 6 src dst zs = 0) (hl : x.length = zs.length) (ho : ∀ j, 4 ≤ j → j ≠ 16 → j ≠ 17 → x[j]? = zs[j]?) (hg : Mt.cks (psd s d 6 zs.length ++ x) = 0) :
  pte 6 s d x = 0 ∧ thd x = thd zs ∧ hop x = hop zs := by
 have hpc : ptc 6 src dst zs = 0 := by
  unfold pte at hp
  split at hp
  ·rename_i h1; exact absurd hp h1
  ·rename_i h1; simpa using h1
 have hop' : (opts (hop zs)).isNone = false := by
  unfold pte at hp
  rw [if_neg (by simp [hpc])] at hp
  split at hp
  ·omega
  ·rename_i h1; exact Bool.eq_false_iff.2 h1
 obtain ⟨_, h20, ht20, htl, h16, _⟩ := ptc_zero hpc
 have e12 : x[12]? = zs[12]? := ho 12 (by omega) (by omega) (by omega)
 have et : thd x = thd zs := by unfold thd; rw [e12]
 have eh : hop x = hop zs := by unfold hop; rw [et, drop_same (fun j hj => ho j (by omega) (by omega) (by omega))]
 refine ⟨?_, et, eh⟩
 have ep : ptc 6 s d x = 0 := by
  unfold ptc
  rw [hl, et, e12, if_neg (by omega), if_neg (by omega), if_neg (by omega), if_neg (by omega), if_neg (by simp [hg])]
 unfold pte
 rw [if_neg (by simp [ep]), eh, if_neg (by simp [hop'])]
theorem pte_facts {src dst : Int} {zs : List Int} (hp : pte 6 src dst zs = 0) : 20 ≤ zs.length ∧ 20 ≤ thd zs ∧ thd zs ≤ zs.length ∧ Mt.cks (psd src dst 6 zs.length ++ zs) = 0 ∧ ∃ os, opts (hop zs) = some os := by
 have hpc : ptc 6 src dst zs = 0 := by
  unfold pte at hp
  split at hp
  ·rename_i h1; exact absurd hp h1
  ·rename_i h1; simpa using h1
 obtain ⟨_, h20, ht20, htl, h16, hg⟩ := ptc_zero hpc
 refine ⟨h20, ht20, htl, hg, ?_⟩
 unfold pte at hp
 rw [if_neg (by simp [hpc])] at hp
 split at hp
 ·omega
 ·rename_i h1
  cases ho : opts (hop zs) with
  | none => rw [ho] at h1; exact absurd rfl h1
  | some os => exact ⟨os, rfl⟩
theorem obOk_of {zs : List Int} {os : List Opt} (hB : Mt.By zs) (h : opts (hop zs) = some os) : obOk os ∧ (obs os).length ≤ (thd zs).toNat - 20 := by
 obtain ⟨g1, g2⟩ := opts_ok _ _ _ (Nat.le_refl _) h
 have hl : (hop zs).length ≤ (thd zs).toNat - 20 := by unfold hop; rw [List.length_take]; omega
 have := thd_le hB
 exact ⟨⟨g1, by omega⟩, by omega⟩
theorem pad_thd {zs : List Int} {os : List Opt} (hB : Mt.By zs) (h20 : 20 ≤ thd zs) (h : opts (hop zs) = some os) : 20 + (pad (obs os)).length ≤ (thd zs).toNat := by
 have := (obOk_of hB h).2
 have hm : (thd zs).toNat % 4 = 0 := by unfold thd at *; omega
 rw [pad_length]
 unfold padn
 omega
end Go.Proofs.YtghpakfjpdifaaaGreatDoor

/- Mathematics: what the document's Rewrite makes, and that a quoted packet, patched, tells the same. -/
namespace Go.Proofs.YtghpakfjpdifaaaGreatDoor
open Go.RowKit Go.Shelf
set_option maxRecDepth 100000
set_option linter.unusedVariables false
set_option linter.unusedSimpArgs false

/-- Datagrams. -/
theorem qsU_eq (u : Un) {zs : List Int} (h : 8 ≤ zs.length) : qsU u zs = if wat zs 6 = 0 then prt u.a u.b zs else Mt.put2 (prt u.a u.b zs) 6 (nbr (ptch u (wat zs 6))) := by
 unfold qsU
 rw [getAt2_lit _ 6 6 rfl (by rw [prt_length]; omega), prt_w _ _ _ _ (by omega), putAt2_lit _ 6 6 _ rfl (by rw [prt_length]; omega)]
theorem qsU_other (u : Un) {zs : List Int} (h : 8 ≤ zs.length) (j : Nat) (h4 : 4 ≤ j) (h2 : j ≠ 6) (h3 : j ≠ 7) : (qsU u zs)[j]? = zs[j]? := by
 rw [qsU_eq u h]
 split
 ·exact prt_other _ _ _ _ h4
 ·rw [Mt.put2_other _ _ _ _ (by omega) (by omega), prt_other _ _ _ _ h4]
theorem qsU_w6 (u : Un) {zs : List Int} (h : 8 ≤ zs.length) : (wat (qsU u zs) 6 == 0) = (wat zs 6 == 0) := by
 rw [qsU_eq u h]
 split
 ·rw [prt_w _ _ _ _ (by omega)]
 ·rename_i h0
  have := nbr_bd (ptch_bd u (wat zs 6))
  rw [wat_put2 _ _ _ (by rw [prt_length]; omega) (by omega)]
  have h1 : (nbr (ptch u (wat zs 6)) == 0) = false := by simp; omega
  rw [h1]
  simp [h0]
theorem qsU_good {u : Un} {zs : List Int} (hB : Mt.By zs) (h8 : 8 ≤ zs.length) (hu : UOk u) (hw : UOw u) (ha1 : u.a1 = wat zs 0) (hb1 : u.b1 = wat zs 2) (hg : wat zs 6 ≠ 0 → Mt.cks (psd u.s1 u.d1 17 zs.length ++ zs) = 0) : wat (qsU u zs) 6 ≠ 0 → Mt.cks (psd u.s u.d 17 zs.length ++ qsU u zs) = 0 := by
 intro h6
 have h60 : wat zs 6 ≠ 0 := by
  intro e
  have := qsU_w6 u h8
  rw [e] at this
  simp at this
  exact h6 this
 have hg := hg h60
 rw [cks_zero, tw_psd_app, tw_psd _ _ _ _ hw.1.1 hw.2.1.1 (by omega)] at hg
 obtain ⟨g1, g2⟩ := Mt.fd_eq _ hg
 have hBq : Mt.By (qsU u zs) := by
  have := qsD_by (pr := 17) (u := u) hB hu
  simpa [qsD] using this
 have hn := Mt.tw_nonneg true _ hBq
 have hp := ptch_mod u (wat zs 6) (wat_bd hB 6) hu hw
 rw [cks_zero, tw_psd_app, tw_psd _ _ _ _ hu.1.1 hu.2.1.1 (by omega)]
 rw [qsU_eq u h8, if_neg h60, twp _ 6 _ (by omega) (by rw [prt_length]; omega), tw_prt _ _ _ (by omega), prt_w _ _ _ _ (by omega)] at hn ⊢
 rw [ha1, hb1] at hp
 refine Mt.fd_of _ ?_ ?_
 ·have := hu.1
  have := hu.2.1
  omega
 ·have hnb : (nbr (ptch u (wat zs 6)) - ptch u (wat zs 6)) % 65535 = 0 := by unfold nbr; split <;> omega
  generalize nbr (ptch u (wat zs 6)) = pn at *
  generalize ptch u (wat zs 6) = pp at *
  omega
theorem pue_facts {src dst : Int} {zs : List Int} (hp : pue 17 src dst zs = 0) : 8 ≤ zs.length ∧ wat zs 4 = zs.length ∧ (wat zs 6 ≠ 0 → Mt.cks (psd src dst 17 zs.length ++ zs) = 0) := by
 unfold pue at hp
 rw [if_neg (by omega)] at hp
 split at hp
 ·omega
 split at hp
 ·omega
 split at hp
 ·omega
 rename_i h8 h4 h6
 refine ⟨by omega, by omega, fun h => ?_⟩
 by_cases hc : Mt.cks (psd src dst 17 zs.length ++ zs) = 0
 ·exact hc
 ·exact absurd ⟨h, hc⟩ h6
theorem pue_like {s d : Int} {zs x : List Int} (h8 : 8 ≤ zs.length) (h4 : wat zs 4 = zs.length) (hl : x.length = zs.length) (ho : ∀ j, 4 ≤ j → j ≠ 6 → j ≠ 7 → x[j]? = zs[j]?) (hg : wat x 6 ≠ 0 → Mt.cks (psd s d 17 zs.length ++ x) = 0) : pue 17 s d x = 0 := by
 unfold pue
 rw [hl, wat_same (ho 4 (by omega) (by omega) (by omega)) (ho 5 (by omega) (by omega) (by omega)), if_neg (by omega), if_neg (by omega), if_neg (by omega), if_neg (fun e => e.2 (hg e.1))]

/-- Messages. -/
theorem qsI_eq2 (u : Un) {zs : List Int} (h : 8 ≤ zs.length) : qsI u zs = Mt.put2 (Mt.put2 zs 4 u.a) 2 (ptv (wat zs 2) u.a1 u.a) := by
 unfold qsI
 rw [getAt2_lit _ 2 2 rfl (by rw [Mt.put2_length]; omega), wat_put2_other _ _ _ _ (by omega), putAt2_lit _ 2 2 _ rfl (by rw [Mt.put2_length]; omega)]
theorem qsI_other (u : Un) {zs : List Int} (h : 8 ≤ zs.length) (j : Nat) (hj : j < 2 ∨ 6 ≤ j) : (qsI u zs)[j]? = zs[j]? := by
 rw [qsI_eq2 u h, Mt.put2_other _ _ _ _ (by omega) (by omega), Mt.put2_other _ _ _ _ (by omega) (by omega)]
theorem qsI_w4 (u : Un) {zs : List Int} (h : 8 ≤ zs.length) (ha : 0 ≤ u.a) : wat (qsI u zs) 4 = u.a := by
 rw [qsI_eq2 u h, wat_put2_other _ _ _ _ (by omega), wat_put2 _ _ _ (by omega) ha]
theorem qsI_good {u : Un} {zs : List Int} (hB : Mt.By zs) (h8 : 8 ≤ zs.length) (hu : UOk u) (hw : UOw u) (ha1 : u.a1 = wat zs 4) (ha0 : u.a ≠ 0) (hg : Mt.cks zs = 0) : Mt.cks (qsI u zs) = 0 := by
 have hBq : Mt.By (qsI u zs) := by
  have := qsD_by (pr := 1) (u := u) hB hu
  simpa [qsD] using this
 have h4 := wat_tw hBq 4 (by omega) (by rw [qsI_eq2 u h8]; simp [Mt.put2_length]; omega)
 rw [qsI_w4 u h8 hu.2.2.1.1] at h4
 rw [cks_zero] at hg ⊢
 obtain ⟨g1, g2⟩ := Mt.fd_eq _ hg
 have hp := ptv_mod (wat zs 2) u.a1 u.a (wat_bd hB 2) hw.2.2.1 hu.2.2.1
 rw [qsI_eq2 u h8, twp _ 2 _ (by omega) (by rw [Mt.put2_length]; omega), twp zs 4 _ (by omega) (by omega), wat_put2_other _ _ _ _ (by omega)] at h4 ⊢
 have := hu.2.2.1
 refine Mt.fd_of _ (by omega) ?_
 rw [ha1] at hp ⊢
 generalize ptv (wat zs 2) (wat zs 4) u.a = pp at *
 omega
theorem oie_facts {zs : List Int} (hp : oie zs = 0) : 8 ≤ zs.length ∧ Mt.cks zs = 0 ∧ ecb (zs[0]?.getD 0) (zs[1]?.getD 0) = true := by
 unfold oie at hp
 by_cases h1 : pie 1 zs = 0
 ·rw [if_neg (by simp [h1])] at hp
  have he : ecb (zs[0]?.getD 0) (zs[1]?.getD 0) = true := by
   by_cases h : ecb (zs[0]?.getD 0) (zs[1]?.getD 0) = true
   ·exact h
   ·rw [if_neg h] at hp; omega
  unfold pie at h1
  rw [if_neg (by omega)] at h1
  split at h1
  ·omega
  split at h1
  ·omega
  ·rename_i h2 h3
   exact ⟨by omega, by simpa using h3, he⟩
 ·rw [if_pos h1] at hp; exact absurd hp h1
theorem oie_like {x : List Int} (h8 : 8 ≤ x.length) (hg : Mt.cks x = 0) (he : ecb (x[0]?.getD 0) (x[1]?.getD 0) = true) : oie x = 0 := by
 have h1 : pie 1 x = 0 := by unfold pie; rw [if_neg (by omega), if_neg (by omega), if_neg (by simp [hg])]
 unfold oie
 rw [if_neg (by simp [h1]), if_pos he]

/-- What the document's Rewrite makes of a packet's data. -/
def rwR (pr s d a b : Int) (os : List Opt) (zs : List Int) : List Int :=
 if pr = 6 then tcp a b (wat4 zs 4) (wat4 zs 8) (zs[13]?.getD 0) (wat zs 14) (wat zs 18) (pad (obs os)) s d (zs.drop (thd zs).toNat)
 else if pr = 17 then udp a b (wat zs 6 == 0) s d (zs.drop 8)
 else if pr = 1 then icm (zs[0]?.getD 0) (zs[1]?.getD 0) (a * 65536 + wat zs 6) (zs.drop 8)
 else grb b (ghs (bgz zs)) (gha (bgz zs)) (gsq (bgz zs) zs) (gak (bgz zs) zs) (zs.drop (ghd (bgz zs)))
theorem wat4_bdY {zs : List Int} (hB : Mt.By zs) (k : Nat) : 0 ≤ wat4 zs k ∧ wat4 zs k ≤ 4294967295 := by
 have b1 := wat_bd hB k
 have b2 := wat_bd hB (k + 2)
 unfold wat4
 omega

theorem sm_tcp {u : Un} {src dst : Int} {zs : List Int} {os : List Opt} (hB : Mt.By zs) (hp : pte 6 src dst zs = 0) (ho : opts (hop zs) = some os) (hu : UOk u) (hw : UOw u) (hs1 : u.s1 = src) (hd1 : u.d1 = dst) (ha1 : u.a1 = wat zs 0) (hb1 : u.b1 = wat zs 2) :
  pte 6 u.s u.d (qsT u zs) = 0 ∧ pte 6 u.s u.d (rwR 6 u.s u.d u.a u.b os zs) = 0 ∧ SmT (qsT u zs) (rwR 6 u.s u.d u.a u.b os zs) ∧ Mt.By (rwR 6 u.s u.d u.a u.b os zs) ∧ (rwR 6 u.s u.d u.a u.b os zs).length ≤ zs.length ∧ obOk os ∧ ByO os := by
 obtain ⟨h20, ht20, htl, hg, _⟩ := pte_facts hp
 have hok := (obOk_of hB ho).1
 have hBy := opts_by _ _ _ (Nat.le_refl _) (by unfold hop; exact (hB.drop 20).take _) ho
 have hpt := pad_thd hB ht20 ho
 have hm := pad_mod (obs os)
 subst hs1 hd1
 have hx := qsT_good hB h20 hu hw ha1 hb1 hg
 have hxl : (qsT u zs).length = zs.length := by have := qsD_length 6 u zs; simpa [qsD] using this
 obtain ⟨x1, x2, x3⟩ := pte_like hp hxl (fun j h1 h2 h3 => qsT_other u (by omega) j h1 h2 h3) hx
 have hB0 : Mt.By (tcp0 u.a u.b (wat4 zs 4) (wat4 zs 8) (zs[13]?.getD 0) (wat zs 14) (wat zs 18) (pad (obs os)) (zs.drop (thd zs).toNat)) :=
  By_tcp0 _ _ _ _ _ _ _ _ _ hu.2.2.1 hu.2.2.2 (wat4_bdY hB 4) (wat4_bdY hB 8) (hB.at 13) (wat_bd hB 14) (wat_bd hB 18) (pad_le _ hok.2) (By_pad _ (By_obs os hBy hok.2)) (hB.drop _)
 have hz := tcp_pte u.a u.b (wat4 zs 4) (wat4 zs 8) (zs[13]?.getD 0) (wat zs 14) (wat zs 18) os u.s u.d (zs.drop (thd zs).toNat) hok hu.1 hu.2.1 hB0
 rw [show rwR 6 u.s u.d u.a u.b os zs = tcp u.a u.b (wat4 zs 4) (wat4 zs 8) (zs[13]?.getD 0) (wat zs 14) (wat zs 18) (pad (obs os)) u.s u.d (zs.drop (thd zs).toNat) from rfl]
 have ex : ∀ j, 4 ≤ j → j ≠ 16 → j ≠ 17 → (qsT u zs)[j]? = zs[j]? := fun j h1 h2 h3 => qsT_other u (by omega) j h1 h2 h3
 have e0 : wat (qsT u zs) 0 = u.a := by rw [qsT_eq u (by omega), wat_put2_other _ _ _ _ (by omega), prt_w0 _ _ _ (by omega) hu.2.2.1.1]
 have e2 : wat (qsT u zs) 2 = u.b := by rw [qsT_eq u (by omega), wat_put2_other _ _ _ _ (by omega), prt_w2 _ _ _ (by omega) hu.2.2.2.1]
 have tz := tcp_thd u.a u.b (wat4 zs 4) (wat4 zs 8) (zs[13]?.getD 0) (wat zs 14) (wat zs 18) (pad (obs os)) u.s u.d (zs.drop (thd zs).toNat) hm
 refine ⟨x1, hz.1, ⟨⟨?_, ?_, ?_, ?_⟩, ⟨?_, ?_, ?_⟩, ?_, ?_, ?_⟩, By_tcp _ _ _ _ _ _ _ _ _ _ _ hB0, ?_, hok, hBy⟩
 ·rw [tcp_w0, e0]
 ·rw [tcp_w2, e2]
 ·rw [tcp_w4, wat4_same (fun j h1 h2 => ex j (by omega) (by omega) (by omega))]
 ·rw [tcp_w8, wat4_same (fun j h1 h2 => ex j (by omega) (by omega) (by omega))]
 ·rw [tcp_13, ex 13 (by omega) (by omega) (by omega)]
 ·rw [tcp_w14, wat_same (ex 14 (by omega) (by omega) (by omega)) (ex 15 (by omega) (by omega) (by omega))]
 ·rw [tcp_w18, wat_same (ex 18 (by omega) (by omega) (by omega)) (ex 19 (by omega) (by omega) (by omega))]
 ·rw [tcp_hop _ _ _ _ _ _ _ _ _ _ _ hm, opts_pad os hok, x3, ho]
 ·rw [tz, x2, tcp_drop _ _ _ _ _ _ _ _ _ _ _ _ (by omega)]
  exact (drop_same (fun j hj => ex j (by omega) (by omega) (by omega))).symm
 ·rw [tz, x2, tcp_length, hxl, List.length_drop]
  omega
 ·rw [tcp_length, List.length_drop]
  omega

theorem sm_udp {u : Un} {src dst : Int} {zs : List Int} (os : List Opt) (hB : Mt.By zs) (hl6 : zs.length ≤ 65535) (hp : pue 17 src dst zs = 0) (hu : UOk u) (hw : UOw u) (hs1 : u.s1 = src) (hd1 : u.d1 = dst) (ha1 : u.a1 = wat zs 0) (hb1 : u.b1 = wat zs 2) :
  pue 17 u.s u.d (qsU u zs) = 0 ∧ pue 17 u.s u.d (rwR 17 u.s u.d u.a u.b os zs) = 0 ∧ SmU (qsU u zs) (rwR 17 u.s u.d u.a u.b os zs) ∧ Mt.By (rwR 17 u.s u.d u.a u.b os zs) ∧ (rwR 17 u.s u.d u.a u.b os zs).length ≤ zs.length := by
 obtain ⟨h8, h4, hg⟩ := pue_facts hp
 subst hs1 hd1
 have hx := qsU_good hB h8 hu hw ha1 hb1 hg
 have hxl : (qsU u zs).length = zs.length := by have := qsD_length 17 u zs; simpa [qsD] using this
 have ex : ∀ j, 4 ≤ j → j ≠ 6 → j ≠ 7 → (qsU u zs)[j]? = zs[j]? := fun j h1 h2 h3 => qsU_other u h8 j h1 h2 h3
 have hld : (zs.drop 8).length = zs.length - 8 := by rw [List.length_drop]
 have e0 : wat (qsU u zs) 0 = u.a := by
  rw [qsU_eq u h8]
  split
  ·exact prt_w0 _ _ _ (by omega) hu.2.2.1.1
  ·rw [wat_put2_other _ _ _ _ (by omega), prt_w0 _ _ _ (by omega) hu.2.2.1.1]
 have e2 : wat (qsU u zs) 2 = u.b := by
  rw [qsU_eq u h8]
  split
  ·exact prt_w2 _ _ _ (by omega) hu.2.2.2.1
  ·rw [wat_put2_other _ _ _ _ (by omega), prt_w2 _ _ _ (by omega) hu.2.2.2.1]
 rw [show rwR 17 u.s u.d u.a u.b os zs = udp u.a u.b (wat zs 6 == 0) u.s u.d (zs.drop 8) from rfl]
 refine ⟨pue_like h8 h4 hxl ex hx, ?_, ⟨?_, ?_, ?_, ?_, ?_⟩, By_udp _ _ _ _ _ _ hu.2.2.1 hu.2.2.2 (hB.drop 8), ?_⟩
 ·rw [udp_pue _ _ _ _ _ _ 17 rfl u.s u.d (by omega), if_neg]
  rintro ⟨hb, hc⟩
  rw [hb] at hc
  exact hc (udp_good _ _ _ _ _ hu.1 hu.2.1 (By_udp0 _ _ _ hu.2.2.1 hu.2.2.2 (hB.drop 8)))
 ·rw [udp_w0, e0]
 ·rw [udp_w2, e2]
 ·rw [qsU_w6 u h8, udp_w6]
  cases hb : (wat zs 6 == 0) with
  | true => rfl
  | false =>
   have := usm_bd u.s u.d 17 (udp0 u.a u.b (zs.drop 8))
   simp
   omega
 ·rw [udp_drop]
  exact (drop_same (fun j hj => ex j (by omega) (by omega) (by omega))).symm
 ·rw [udp_length, hxl, hld]
  omega
 ·rw [udp_length, hld]
  omega

theorem sm_icmp {u : Un} {zs : List Int} (s d : Int) (os : List Opt) (hB : Mt.By zs) (hp : oie zs = 0) (hu : UOk u) (hw : UOw u) (ha1 : u.a1 = wat zs 4) (ha0 : u.a ≠ 0) :
  oie (qsI u zs) = 0 ∧ oie (rwR 1 s d u.a u.b os zs) = 0 ∧ SmI (qsI u zs) (rwR 1 s d u.a u.b os zs) ∧ Mt.By (rwR 1 s d u.a u.b os zs) ∧ (rwR 1 s d u.a u.b os zs).length ≤ zs.length := by
 obtain ⟨h8, hg, he⟩ := oie_facts hp
 have hx := qsI_good hB h8 hu hw ha1 ha0 hg
 have hxl : (qsI u zs).length = zs.length := by have := qsD_length 1 u zs; simpa [qsD] using this
 have ex : ∀ j, j < 2 ∨ 6 ≤ j → (qsI u zs)[j]? = zs[j]? := fun j hj => qsI_other u h8 j hj
 have hld : (zs.drop 8).length = zs.length - 8 := by rw [List.length_drop]
 have hre : 0 ≤ u.a * 65536 + wat zs 6 ∧ u.a * 65536 + wat zs 6 ≤ 4294967295 := by
  have := wat_bd hB 6
  have := hu.2.2.1
  omega
 rw [show rwR 1 s d u.a u.b os zs = icm (zs[0]?.getD 0) (zs[1]?.getD 0) (u.a * 65536 + wat zs 6) (zs.drop 8) from rfl]
 refine ⟨oie_like (by omega) hx (by rw [ex 0 (by omega), ex 1 (by omega)]; exact he), oie_like (by rw [icm_length]; omega) (icm_good _ _ _ _ (hB.at 0) (hB.at 1) hre (hB.drop 8)) (by rw [icm_0, icm_1]; exact he), ⟨?_, ?_, ?_, ?_, ?_⟩, By_icm _ _ _ _ (hB.at 0) (hB.at 1) hre (hB.drop 8), ?_⟩
 ·rw [icm_0, ex 0 (by omega)]
 ·rw [icm_1, ex 1 (by omega)]
 ·rw [icm_4]
  unfold wat4
  rw [qsI_w4 u h8 hu.2.2.1.1, wat_same (ex 6 (by omega)) (ex 7 (by omega))]
 ·rw [icm_drop]
  exact (drop_same (fun j hj => ex j (by omega))).symm
 ·rw [icm_length, hxl, hld]
  omega
 ·rw [icm_length, hld]
  omega
end Go.Proofs.YtghpakfjpdifaaaGreatDoor

/- Mathematics: frames; all four protocols in one form. -/
namespace Go.Proofs.YtghpakfjpdifaaaGreatDoor
open Go.RowKit Go.Shelf
set_option maxRecDepth 100000
set_option linter.unusedVariables false
set_option linter.unusedSimpArgs false

theorem bgz_le (zs : List Int) : bgz zs ≤ 4 := bgo_le _ _ _ _
theorem bgn_of {n : Nat} (h : n ≤ 3) : bgn (ghs n) (gha n) = n := by
 have : n = 0 ∨ n = 1 ∨ n = 2 ∨ n = 3 := by omega
 rcases this with rfl | rfl | rfl | rfl <;> rfl
theorem grf_of (n : Nat) (zs : List Int) : grf (ghs n) (gha n) (gsq n zs) (gak n zs) = false := by
 by_cases h0 : n = 0
 ·subst h0; rfl
 by_cases h1 : n = 1
 ·subst h1; simp [grf, ghs, gha, gak]
 by_cases h2 : n = 2
 ·subst h2; simp [grf, ghs, gha, gsq]
 by_cases h3 : n = 3
 ·subst h3; simp [grf, ghs, gha]
 ·simp [grf, gsq, gak, h0, h1, h2, h3]
theorem getAt4_bdZ {zs : List Int} (hB : Mt.By zs) (p : Int) : 0 ≤ getAt4 zs p ∧ getAt4 zs p ≤ 4294967295 := by
 unfold getAt4
 split
 ·exact wat4_bdY hB _
 ·omega
theorem gsq_bdZ {zs : List Int} (hB : Mt.By zs) (n : Nat) : (0 ≤ gsq n zs ∧ gsq n zs ≤ 4294967295) ∧ (0 ≤ gak n zs ∧ gak n zs ≤ 4294967295) := by
 have h1 := getAt4_bdZ hB 8
 have h2 := getAt4_bdZ hB 12
 unfold gsq gak
 constructor
 ·split <;> omega
 ·split
  ·omega
  ·split <;> omega
theorem pge_facts {zs : List Int} (hp : pge 47 zs = 0) : 8 ≤ zs.length ∧ bgz zs ≤ 3 ∧ (zs.length : Int) = ghd (bgz zs) + wat zs 4 := by
 have := bgz_le zs
 unfold pge at hp
 rw [if_neg (by omega)] at hp
 split at hp
 ·omega
 split at hp
 ·omega
 split at hp
 ·omega
 split at hp
 ·omega
 ·exact ⟨by omega, by omega, by omega⟩

theorem sm_gre {u : Un} {zs : List Int} (s d : Int) (os : List Opt) (hB : Mt.By zs) (hp : pge 47 zs = 0) (hu : UOk u) :
  pge 47 (rwG u.b zs) = 0 ∧ pge 47 (rwR 47 s d u.a u.b os zs) = 0 ∧ SmG (rwG u.b zs) (rwR 47 s d u.a u.b os zs) ∧ Mt.By (rwR 47 s d u.a u.b os zs) ∧ (rwR 47 s d u.a u.b os zs).length ≤ zs.length := by
 obtain ⟨h8, hn, hlen⟩ := pge_facts hp
 obtain ⟨x1, x2, _⟩ := rwG_pge (b := u.b) hp
 have hb := hu.2.2.2
 have hw4 := wat_bd hB 4
 have ex : ∀ j, j ≠ 6 → j ≠ 7 → (rwG u.b zs)[j]? = zs[j]? := fun j h1 h2 => Mt.put2_other _ _ _ _ h1 h2
 have hxl : (rwG u.b zs).length = zs.length := Mt.put2_length _ _ _
 have hgd := ghd_bd (bgz zs)
 have hld : (zs.drop (ghd (bgz zs))).length = zs.length - ghd (bgz zs) := by rw [List.length_drop]
 obtain ⟨hsb, hab⟩ := gsq_bdZ hB (bgz zs)
 have hgf := grf_of (bgz zs) zs
 have hbn := bgn_of hn
 have gs := gsq_same (n := bgz zs) hxl (fun j hj => ex j (by omega) (by omega))
 have g6 : getAt2 (rwG u.b zs) 6 = u.b := by
  rw [getAt2_lit _ 6 6 rfl (by omega)]
  exact wat_put2 _ _ _ (by omega) hb.1
 have xd : (rwG u.b zs).drop (ghd (bgz zs)) = zs.drop (ghd (bgz zs)) := drop_same (fun j hj => ex j (by omega) (by omega))
 have hpz := grb_pge u.b (ghs (bgz zs)) (gha (bgz zs)) (gsq (bgz zs) zs) (gak (bgz zs) zs) (zs.drop (ghd (bgz zs))) (by omega)
 have hpt := grb_parts u.b (ghs (bgz zs)) (gha (bgz zs)) (gsq (bgz zs) zs) (gak (bgz zs) zs) (zs.drop (ghd (bgz zs))) hb.1 hsb.1 hab.1 hgf hpz
 have hbz := grb_bgz u.b (ghs (bgz zs)) (gha (bgz zs)) (gsq (bgz zs) zs) (gak (bgz zs) zs) (zs.drop (ghd (bgz zs)))
 rw [hbn] at hbz
 have hzl := grb_length u.b (ghs (bgz zs)) (gha (bgz zs)) (gsq (bgz zs) zs) (gak (bgz zs) zs) (zs.drop (ghd (bgz zs)))
 rw [← ghd_bgn, hbn] at hzl
 have hBz := By_grb u.b (ghs (bgz zs)) (gha (bgz zs)) (gsq (bgz zs) zs) (gak (bgz zs) zs) (zs.drop (ghd (bgz zs))) hb hsb hab (hB.drop _)
 rw [show rwR 47 s d u.a u.b os zs = grb u.b (ghs (bgz zs)) (gha (bgz zs)) (gsq (bgz zs) zs) (gak (bgz zs) zs) (zs.drop (ghd (bgz zs))) from rfl]
 generalize grb u.b (ghs (bgz zs)) (gha (bgz zs)) (gsq (bgz zs) zs) (gak (bgz zs) zs) (zs.drop (ghd (bgz zs))) = z at *
 obtain ⟨p1, _, _, p4, p5, p6⟩ := hpt
 unfold gcl at p1
 unfold gq1 at p4
 unfold gq2 at p5
 unfold gdt at p6
 rw [if_pos hpz] at p1
 rw [if_pos hpz, hbz] at p4 p5 p6
 refine ⟨x1, hpz, ⟨?_, ?_, ?_, ?_, ?_, ?_⟩, hBz, by rw [hzl, hld]; omega⟩
 ·rw [p1, g6]
 ·rw [hbz, x2]
 ·rw [x2, p4, gs.1]
 ·rw [x2, p5, gs.2]
 ·rw [x2, p6, xd]
 ·rw [x2, hzl, hxl, hld]
  omega

theorem sm_any {pr src dst : Int} {u : Un} {zs : List Int} (hok : pok pr) (hB : Mt.By zs) (hl6 : zs.length ≤ 65535) (ho : ofe pr src dst zs = 0) (hu : UOk u) (hw : UOw u) (hs1 : u.s1 = src) (hd1 : u.d1 = dst) (ha1 : u.a1 = qia pr zs) (hb1 : u.b1 = qib pr zs) (ha0 : pr = 1 → u.a ≠ 0) :
  ∃ os, ofe pr u.s u.d (qsD pr u zs) = 0 ∧ ofe pr u.s u.d (rwR pr u.s u.d u.a u.b os zs) = 0 ∧ SmA pr (qsD pr u zs) (rwR pr u.s u.d u.a u.b os zs) ∧ Mt.By (rwR pr u.s u.d u.a u.b os zs) ∧ (rwR pr u.s u.d u.a u.b os zs).length ≤ zs.length ∧ (pr = 6 → opts (hop zs) = some os ∧ obOk os ∧ ByO os) := by
 rcases hok with rfl | rfl | rfl | rfl
 ·obtain ⟨_, _, _, _, os, hos⟩ := pte_facts (show pte 6 src dst zs = 0 from ho)
  obtain ⟨h1, h2, h3, h4, h5, h6, h7⟩ := sm_tcp hB ho hos hu hw hs1 hd1 ha1 hb1
  exact ⟨os, h1, h2, .inl ⟨rfl, h3⟩, h4, h5, fun _ => ⟨hos, h6, h7⟩⟩
 ·obtain ⟨h1, h2, h3, h4, h5⟩ := sm_udp [] hB hl6 ho hu hw hs1 hd1 ha1 hb1
  exact ⟨[], h1, h2, .inr (.inl ⟨rfl, h3⟩), h4, h5, fun e => absurd e (by decide)⟩
 ·obtain ⟨h1, h2, h3, h4, h5⟩ := sm_icmp u.s u.d [] hB ho hu hw ha1 (ha0 rfl)
  exact ⟨[], h1, h2, .inr (.inr (.inl ⟨rfl, h3⟩)), h4, h5, fun e => absurd e (by decide)⟩
 ·obtain ⟨h1, h2, h3, h4, h5⟩ := sm_gre u.s u.d [] hB ho hu
  exact ⟨[], h1, h2, .inr (.inr (.inr ⟨rfl, h3⟩)), h4, h5, fun e => absurd e (by decide)⟩
end Go.Proofs.YtghpakfjpdifaaaGreatDoor

/- The document's optionBytes. -/
namespace Go.Proofs.YtghpakfjpdifaaaGreatDoor
open Go.RowKit Go.Shelf
set_option maxRecDepth 100000
set_option linter.unusedVariables false
set_option linter.unusedSimpArgs false

theorem Rd.new1 (x : Int) (e : TypeId) (w : World) : Rd (w.heap.size + 1) (w.alloc (.cells #[.int .u8 x] e)) (.slice (some ⟨w.heap.size, 0, none⟩) 1 1) [x] := Rd.new [x] e w (by simp) (by simp)
theorem later_one (W : World) (x : Int) : Later W (W.alloc (.cells #[.int .u8 x] 5)) := (Below.refl _ _).alloc (Nat.le_refl _) _
theorem row_not {W : World} {k : Nat} {cur : Array Value} {t : TypeId} (h : W.heap[k]? = some (.cells cur t (0, 0))) (ht : t ≠ 5) {base size n : Nat} {v : Value} {xs : List Value} (hr : W.ownsRow base 5 size v n xs) : some k ≠ v.ownBlock := by
 rcases hr.2 with ⟨rfl, _⟩ | ⟨g, cap, cur', rfl, _, hgb, _⟩
 ·simp [Value.ownBlock]
 ·intro e'
  obtain rfl : k = g := by simpa [Value.ownBlock] using e'
  have := h.symm.trans hgb
  simp at this
  exact ht this.2
theorem wpList_rwk {ops : Array Oper} {rest : List Oper} {o : Oper} {a : Act} {Q : Exit → Act → World → Prop} (w : World) (hgd : o.guard = none) (s x : Operand)
  (ho : o.op = .call { callee := .builtin .append, args := #[s, x], argTypes := #[24, 24] }) {Wb : World} {v : Value} {ys : List Int} (hR : Rw Wb v ys w) (hs : a.eval s = v)
  (n₀ : Nat) (sx : Value) (zs : List Int) (hx : a.eval x = sx) (hI : Rd n₀ w sx zs) (hbd : ys.length + zs.length ≤ 140737488355328)
  {k : Nat} {cur : Array Value} {t : TypeId} (hk : w.heap[k]? = some (.cells cur t (0, 0))) (ht : t ≠ 5)
  (h : ∀ v' w', Rw Wb v' (ys ++ zs) w' → w'.heap[k]? = some (.cells cur t (0, 0)) → wpList Tryz.prog ops Q rest (a.put o.dst v') w') : wpList Tryz.prog ops Q (o :: rest) a w := by
 obtain ⟨i0, hi, hz0, hz1, hz2⟩ := info_parts info_u8
 exact wpList_app w hgd s x 24 ho Wb.heap.size 5 i0 Tryz.underlying24 hi hz0 hz1 hz2 v ys hs hR.1 n₀ sx zs hx hI hbd hR.2.size (fun v' w' h1 h2 => h v' w' ⟨h1, below_app hR.2 hR.1 h2 (Nat.le_refl _) hR.2.size⟩ ((h2.block k (bl9 hk) (row_not hk ht hR.1)).trans hk))
theorem obs_take (os : List Opt) (k : Nat) (h : k < os.length) : obs (os.take (k + 1)) = obs (os.take k) ++ ob1 (os[k]?.getD (0, [])) := by
 rw [List.take_add_one, obs_app]
 simp [h, obs]
theorem obs_mono (os : List Opt) (k : Nat) : (obs (os.take k)).length ≤ (obs os).length := by
 conv => rhs; rw [← List.take_append_drop k os, obs_app]
 simp
theorem not_ok {os : List Opt} {k : Nat} (h : k < os.length) (hb : ¬ okO (os[k]?.getD (0, []))) : ¬ obOk os := fun h0 => hb (h0.1 _ (by simp [h]))
def vpad (v : Value) : Nat := match v with | .slice _ n _ => padn n | _ => 0

set_option maxHeartbeats 8000000 in
theorem roptionBytes_any (sv : Value) (os : List Opt) (w : World) (hI : RdO w.heap.size w sv os) :
  Calls Tryz.prog 74 #[sv] w fun e w' => Below w.heap.size w w' ∧ ((¬ obOk os ∧ e = .returned (.tuple #[.slice none 0 0, .bool false])) ∨ (obOk os ∧ ∃ a c, e = .returned (.tuple #[.slice a (pad (obs os)).length c, .bool true]) ∧ Ow w.heap.size w' (.slice a (pad (obs os)).length c) (pad (obs os)))) := by
 obtain ⟨a, cap, rfl, hc1, hc2⟩ := hI.slice
 have hlb : (os.length : Int) ≤ 9223372036854775807 := by omega
 go_enter Tryz.func74, Tryz.ntmps74
 go_wp2
 go_loopw [4, 5] (fun v i wr => ∃ k : Nat, k ≤ os.length ∧ i = .int .i64 (k : Int) ∧ (∀ o ∈ os.take k, okO o) ∧ (obs (os.take k)).length ≤ 80 ∧ Rw w v (obs (os.take k)) wr) (fun _ i _ => os.length - (intOf i).toNat)
 case atStart => exact ⟨0, by omega, rfl, by simp, by simp [obs], Rw.nil (Later.refl _)⟩
 case round =>
  obtain ⟨k, hk, rfl, hok, h80, hR⟩ := hrel
  have HOK := hide hok
  clear hok
  obtain ⟨av, cv, rfl, hv1, hv2⟩ := hR.ow.slice
  by_cases hlt : k < os.length
  ·have hlt' : (k : Int) < os.length := by omega
   by_cases h40 : (obs (os.take k)).length ≤ 40
   ·have h40' : ((obs (os.take k)).length : Int) ≤ 40 := by omega
    obtain ⟨b, off, cp, e, _, _, hbb, hcs⟩ := hI.cells (by omega)
    simp at e
    obtain ⟨rfl, rfl⟩ := e
    obtain ⟨s, c0w, c1w, hRs⟩ := hcs k hlt
    have c0 := (hR.2.cell (p := ⟨b, off + k * 2, none⟩) hbb).trans c0w
    have c1 := (hR.2.cell (p := ⟨b, off + k * 2 + 1, none⟩) hbb).trans c1w
    clear c0w c1w
    obtain ⟨sa, sc, rfl, _, _⟩ := hRs.slice
    have HN := hide (not_ok (os := os) (k := k) hlt)
    have HM := hide (obs_mono os (k + 1))
    have HT := hide (obs_take os k hlt)
    have HTK : Hid (∀ o ∈ os.take (k + 1), o = os[k]?.getD (0, []) ∨ o ∈ os.take k) := by
     intro o ho
     rw [List.take_add_one] at ho
     rcases List.mem_append.1 ho with h | h
     ·exact .inr h
     ·left; simpa [hlt] using h
    clear hcs
    generalize hgo : os[k]?.getD (0, []) = o at *
    have HGO := hide hgo
    clear hgo
    obtain ⟨kd, dt⟩ := o
    dsimp only at c0 c1 hRs
    generalize hys : obs (os.take k) = ys at *
    have HYS := hide hys
    clear hys
    have lo : Later wr (wr.alloc (.cells #[.int .u8 kd, .slice sa dt.length sc] 115)) := (Below.refl _ _).alloc (Nat.le_refl _) _
    have o1 := heap_alloc_new wr (.cells #[.int .u8 kd, .slice sa dt.length sc] 115)
    have hR1 := hR.later lo
    have X2 := Rd.new1 kd 5 (wr.alloc (.cells #[.int .u8 kd, .slice sa dt.length sc] 115))
    rw [World.size_alloc] at X2
    have l2 := later_one (wr.alloc (.cells #[.int .u8 kd, .slice sa dt.length sc] 115)) kd
    have R2 := hR1.later l2
    have o2 := later_keep l2 o1
    clear o1 hR1
    by_cases k0 : kd = 0
    ·subst k0
     clear X2 R2 o2 l2
     go_wp2_with fail
     exact bodyPost_ret (v := .tuple #[.slice none 0 0, .bool false]) (by simp [results, Tryz.results74, go_sem]) rfl ⟨hR.2.trans (lo.mono hR.2.size), .inl ⟨HN.out (fun h => h.1 rfl), rfl⟩⟩
    have e0 : (kd == 0) = false := by simp [k0]
    by_cases k1 : kd = 1
    ·subst k1
     by_cases hd : 0 < dt.length
     ·have hd' : (0 : Int) < dt.length := by omega
      clear X2 R2 o2 l2
      go_wp2_with fail
      exact bodyPost_ret (v := .tuple #[.slice none 0 0, .bool false]) (by simp [results, Tryz.results74, go_sem]) rfl ⟨hR.2.trans (lo.mono hR.2.size), .inl ⟨HN.out (fun h => by have := h.2 rfl; dsimp only at this; subst this; simp at hd), rfl⟩⟩
     ·obtain rfl : dt = [] := List.length_eq_zero_iff.1 (by omega)
      simp only [List.length_nil] at X2 R2 o2 c1
      clear hd l2 lo
      have O2 := hide o2
      clear o2
      go_wp2_with (at_builtin; go_loud (refine wpList_rwk _ rfl (.tmp 42) (.tmp 45) rfl R2 rfl _ _ _ rfl X2 (by simp; omega) O2.out (by decide) ?_; intro v3 W3 R3 o3; refine Hid.out ?_))
      have oc := block_cell o3
      obtain ⟨a3, c3, rfl, _, _⟩ := R3.ow.slice
      show wpList _ _ _ _ _ _
      go_wp2_with fail
      go_roundw
      case rel => exact ⟨k + 1, by omega, by go_num, fun o ho => by (rcases HTK.out o ho with h | h); (· rw [h]; exact ⟨by show (1 : Int) ≠ 0; decide, fun _ => rfl⟩); exact HOK.out o h, by rw [HT.out, show ob1 (1, []) = [1] from rfl]; simp; omega, by rw [HT.out, show ob1 (1, []) = [1] from rfl]; exact R3⟩
      case measure => simp [intOf]; omega
    have e1 : (kd == 1) = false := by simp [k1]
    have e2 : (kd != 1) = true := by simp [k1]
    by_cases hd : 38 < dt.length
    ·have hd' : (38 : Int) < dt.length := by omega
     clear X2 R2 o2 l2
     go_wp2_with fail
     exact bodyPost_ret (v := .tuple #[.slice none 0 0, .bool false]) (by simp [results, Tryz.results74, go_sem]) rfl ⟨hR.2.trans (lo.mono hR.2.size), .inl ⟨fun h0 => by have h3 := HM.out; rw [HT.out] at h3; have h4 := h0.2; have h5 := ob1_length (kd, dt); unfold osz at h5; rw [if_neg k1] at h5; rw [List.length_append, h5] at h3; dsimp only at h3; omega, rfl⟩⟩
    have hd' : ¬ (38 : Int) < dt.length := by omega
    have O2 := hide o2
    clear o2
    go_wp2_with (at_builtin; go_loud (refine wpList_rwk _ rfl (.tmp 42) (.tmp 45) rfl R2 rfl _ _ _ rfl X2 (by simp; omega) O2.out (by decide) ?_; intro v3 W3 R3 o3; refine Hid.out ?_))
    have oc := block_cell o3
    have l4 := later_one W3 (dt.length + 2)
    have R4 := R3.later l4
    have X4 := Rd.new1 (dt.length + 2) 5 W3
    have O4 := hide (later_keep l4 o3)
    show wpList _ _ _ _ _ _
    go_wp2_with (at_builtin; go_loud (refine wpList_rwk _ rfl (.tmp 50) (.tmp 56) rfl R4 rfl _ _ _ rfl X4 (by simp; omega) O4.out (by decide) ?_; intro v5 W5 R5 o5; refine Hid.out ?_))
    have oc5 := block_cell o5
    have X5 := hRs.below R5.2
    have O5 := hide o5
    clear oc o5
    show wpList _ _ _ _ _ _
    go_wp2_with (at_builtin; go_loud (refine wpList_rwk _ rfl (.tmp 58) (.tmp 60) rfl R5 rfl _ _ _ rfl X5 (by simp; omega) O5.out (by decide) ?_; intro v6 W6 R6 o6; refine Hid.out ?_))
    have hob : ys ++ [kd] ++ [(dt.length : Int) + 2] ++ dt = ys ++ ob1 (kd, dt) := by unfold ob1; rw [if_neg k1]; simp; omega
    rw [hob] at R6
    have hlob : (ob1 (kd, dt)).length ≤ 40 := by rw [ob1_length]; unfold osz; rw [if_neg k1]; dsimp only; omega
    clear hob oc5 O5
    generalize ob1 (kd, dt) = bb at *
    obtain ⟨a6, c6, rfl, _, _⟩ := R6.ow.slice
    show wpList _ _ _ _ _ _
    go_wp2_with fail
    go_roundw
    case rel => exact ⟨k + 1, by omega, by go_num, fun o ho => by (rcases HTK.out o ho with h | h); (· rw [h]; exact ⟨k0, fun h => absurd h k1⟩); exact HOK.out o h, by rw [HT.out]; simp; omega, by rw [HT.out]; exact R6⟩
    case measure => simp [intOf]; omega
   ·have HNO : Hid (¬ obOk os) := fun h0 => by have := obs_mono os k; have := h0.2; omega
    generalize hys : obs (os.take k) = ys at *
    have h40' : (40 : Int) < ys.length := by omega
    clear hys
    go_wp2_with fail
    exact bodyPost_ret (v := .tuple #[.slice none 0 0, .bool false]) (by simp [results, Tryz.results74, go_sem]) rfl ⟨hR.2, .inl ⟨HNO.out, rfl⟩⟩
  ·obtain rfl : k = os.length := by omega
   rw [List.take_length] at hR HOK h80 hv1
   rw [List.take_length]
   by_cases h40 : (obs os).length ≤ 40
   ·have HO : Hid (obOk os) := ⟨HOK.out, h40⟩
    have h40' : ((obs os).length : Int) ≤ 40 := by omega
    clear hlt HOK
    have HR := hide hR
    clear hR
    generalize hn : (obs os).length = n at *
    have HNL := hide hn
    clear hn
    go_wp2_with fail
    clear hI
    go_loopw [4] (fun v wr => ∃ m : Nat, m ≤ padn n ∧ Rw w v (obs os ++ List.replicate m 0) wr) (fun v _ => vpad v)
    case atStart => exact ⟨0, Nat.zero_le _, by simpa using HR.out⟩
    case round =>
     obtain ⟨m, hm, hRm⟩ := hrel
     obtain ⟨am, cm, rfl, _, _⟩ := hRm.ow.slice
     have hln : (obs os ++ List.replicate m 0).length = n + m := by simp [HNL.out]
     have HLN := hide hln
     clear hln
     generalize hgl : (obs os ++ List.replicate m 0).length = L at *
     have hL : L = n + m := HLN.out
     clear HLN
     by_cases hd : L % 4 = 0
     ·have t4 : ((L : Int).tmod 4 != 0) = false := by
       rw [Int.tmod_eq_emod_of_nonneg (by omega)]
       simp
       omega
      have t5 : ((L : Int) % 4 != 0) = false := by simp; omega
      have hme : m = padn n := by unfold padn at *; omega
      have HPD : Hid (obs os ++ List.replicate m 0 = pad (obs os)) := by show _ = _; unfold pad; rw [HNL.out, hme]
      have HGL := hide hgl
      clear hL hm hd hme hgl
      go_wp2_with fail
      exact bodyPost_ret (v := .tuple #[.slice am L cm, .bool true]) (by simp [results, Tryz.results74, go_sem]) rfl ⟨hRm.2, .inr ⟨HO.out, am, cm, by rw [← HPD.out, HGL.out], by rw [← HPD.out, HGL.out]; exact hRm.ow⟩⟩
     ·have t4 : ((L : Int).tmod 4 != 0) = true := by
       rw [Int.tmod_eq_emod_of_nonneg (by omega)]
       simp
       omega
      have t5 : ((L : Int) % 4 != 0) = true := by simp; omega
      have hlt : m + 1 ≤ padn n := by unfold padn at *; omega
      have h44 : L ≤ 44 := by unfold padn at *; omega
      have HD := hide hd
      have HL := hide hL
      have HGL := hide hgl
      clear hd hL hgl
      have R2 := hRm.later (later_one wr 0)
      have X2 := Rd.new1 0 5 wr
      go_wp2_with (at_builtin; go_loud (refine wpList_rw _ rfl (.tmp 69) (.tmp 70) rfl R2 rfl _ _ _ rfl X2 (by rw [HGL.out]; simp; omega) ?_; intro v3 W3 R3; refine Hid.out ?_))
      have R4 : Rw w v3 (obs os ++ List.replicate (m + 1) 0) W3 := by rw [List.replicate_succ', ← List.append_assoc]; exact R3
      have hl4 : (obs os ++ List.replicate (m + 1) 0).length = L + 1 := by rw [HL.out]; simp [HNL.out]; omega
      clear R3
      obtain ⟨a4, c4, rfl, _, _⟩ := R4.ow.slice
      show wpList _ _ _ _ _ _
      go_wp2_with fail
      go_roundw
      case rel => exact ⟨m + 1, hlt, R4⟩
      case measure => simp only [vpad]; rw [hl4, HL.out] at *; have := HD.out; unfold padn at *; omega
   ·have HNO : Hid (¬ obOk os) := fun h0 => h40 h0.2
    have h40' : (40 : Int) < (obs os).length := by omega
    clear hlt
    go_wp2_with fail
    exact bodyPost_ret (v := .tuple #[.slice none 0 0, .bool false]) (by simp [results, Tryz.results74, go_sem]) rfl ⟨hR.2, .inl ⟨HNO.out, rfl⟩⟩
end Go.Proofs.YtghpakfjpdifaaaGreatDoor

/- The document's BuildTcp. -/
namespace Go.Proofs.YtghpakfjpdifaaaGreatDoor
open Go.RowKit Go.Shelf
set_option maxRecDepth 100000
set_option linter.unusedVariables false
set_option linter.unusedSimpArgs false


theorem four_b4 (v : Int) (h : 0 ≤ v ∧ v ≤ 4294967295) : [v / 16777216, v / 65536 % 256, v / 256 % 256, v % 256] = b4 v := by
 unfold b4
 simp
 omega
theorem later_four (W : World) (x y z u : Int) : Later W (W.alloc (.cells #[.int .u8 x, .int .u8 y, .int .u8 z, .int .u8 u] 5)) := (Below.refl _ _).alloc (Nat.le_refl _) _

set_option maxHeartbeats 8000000 in
theorem rbuildTcp_any (tos id ttl proto src dst sp dp sq ak fl wn ur : Int) (keep : Bool) (so sO sm : Value) (ad : Option Addr) (ld cd : Nat) (zo zm : List Int) (os : List Opt) (w : World) (hIo : Rd w.heap.size w so zo) (hBm : Mt.By zm) (hIm : Rd w.heap.size w sm zm)
  (hBO : ByO os) (hIO : RdO w.heap.size w sO os) (h1 : zo.length ≤ 140737488355328) (h2 : zm.length ≤ 140737488355000) (hsr : 0 ≤ src ∧ src ≤ 4294967295) (hds : 0 ≤ dst ∧ dst ≤ 4294967295)
  (hsp : 0 ≤ sp ∧ sp ≤ 65535) (hdp : 0 ≤ dp ∧ dp ≤ 65535) (hsq : 0 ≤ sq ∧ sq ≤ 4294967295) (hak : 0 ≤ ak ∧ ak ≤ 4294967295) (hfl : 0 ≤ fl ∧ fl ≤ 255) (hwn : 0 ≤ wn ∧ wn ≤ 65535) (hur : 0 ≤ ur ∧ ur ≤ 65535) :
  Calls Tryz.prog 38 #[.agg #[.int .u8 tos, .int .u16 id, .bool keep, .int .u8 ttl, .int .u8 proto, .int .u32 src, .int .u32 dst, so, .slice ad ld cd], .agg #[.int .u16 sp, .int .u16 dp, .int .u32 sq, .int .u32 ak, .int .u8 fl, .int .u16 wn, .int .u16 ur, sO, sm]] w fun e w' => Below w.heap.size w w' ∧ (((bte os zo.length zm.length) ≠ 0 ∧ e = .returned (.tuple #[.agg #[.int .u8 0, .int .u16 0, .bool false, .int .u8 0, .int .u8 0, .int .u32 0, .int .u32 0, .slice none 0 0, .slice none 0 0], .int .i64 (bte os zo.length zm.length)])) ∨
   ((bte os zo.length zm.length) = 0 ∧ ∃ a7 c7 a8 c8, e = .returned (.tuple #[.agg #[.int .u8 tos, .int .u16 id, .bool keep, .int .u8 ttl, .int .u8 6, .int .u32 src, .int .u32 dst, .slice a7 zo.length c7, .slice a8 (20 + (pad (obs os)).length + zm.length) c8], .int .i64 0]) ∧ Ow w.heap.size w' (.slice a7 zo.length c7) zo ∧ Ow w.heap.size w' (.slice a8 (20 + (pad (obs os)).length + zm.length) c8) (tcp sp dp sq ak fl wn ur (pad (obs os)) src dst zm))) := by
 obtain ⟨ao, co, rfl, _, _⟩ := hIo.slice
 obtain ⟨am, cm, rfl, _, _⟩ := hIm.slice
 obtain ⟨aO, cO, rfl, _, _⟩ := hIO.slice
 have hb0 : Below w.heap.size w (((w.alloc (.cells #[.int .u8 tos, .int .u16 id, .bool keep, .int .u8 ttl, .int .u8 proto, .int .u32 src, .int .u32 dst, .slice ao zo.length co, .slice ad ld cd] 26)).alloc (.cells #[Value.int .u16 sp, .int .u16 dp, .int .u32 sq, .int .u32 ak, .int .u8 fl, .int .u16 wn, .int .u16 ur, .slice aO os.length cO, .slice am zm.length cm] 60)).alloc (.cells #[.int .u8 0, .int .u16 0, .bool false, .int .u8 0, .int .u8 0, .int .u32 0, .int .u32 0, .slice none 0 0, .slice none 0 0] 26)) := (((Below.refl _ _).alloc (Nat.le_refl _) _).alloc (by simp) _).alloc (by simp; omega) _
 have p0 : (((w.alloc (.cells #[.int .u8 tos, .int .u16 id, .bool keep, .int .u8 ttl, .int .u8 proto, .int .u32 src, .int .u32 dst, .slice ao zo.length co, .slice ad ld cd] 26)).alloc (.cells #[Value.int .u16 sp, .int .u16 dp, .int .u32 sq, .int .u32 ak, .int .u8 fl, .int .u16 wn, .int .u16 ur, .slice aO os.length cO, .slice am zm.length cm] 60)).alloc (.cells #[.int .u8 0, .int .u16 0, .bool false, .int .u8 0, .int .u8 0, .int .u32 0, .int .u32 0, .slice none 0 0, .slice none 0 0] 26)).heap[w.heap.size]? = some (.cells #[.int .u8 tos, .int .u16 id, .bool keep, .int .u8 ttl, .int .u8 proto, .int .u32 src, .int .u32 dst, .slice ao zo.length co, .slice ad ld cd] 26) := (Below.heap_alloc _ _ _ (by simp; omega)).trans ((Below.heap_alloc _ _ _ (by simp)).trans (heap_alloc_new w _))
 have m0 : (((w.alloc (.cells #[.int .u8 tos, .int .u16 id, .bool keep, .int .u8 ttl, .int .u8 proto, .int .u32 src, .int .u32 dst, .slice ao zo.length co, .slice ad ld cd] 26)).alloc (.cells #[Value.int .u16 sp, .int .u16 dp, .int .u32 sq, .int .u32 ak, .int .u8 fl, .int .u16 wn, .int .u16 ur, .slice aO os.length cO, .slice am zm.length cm] 60)).alloc (.cells #[.int .u8 0, .int .u16 0, .bool false, .int .u8 0, .int .u8 0, .int .u32 0, .int .u32 0, .slice none 0 0, .slice none 0 0] 26)).heap[w.heap.size + 1]? = some (.cells #[Value.int .u16 sp, .int .u16 dp, .int .u32 sq, .int .u32 ak, .int .u8 fl, .int .u16 wn, .int .u16 ur, .slice aO os.length cO, .slice am zm.length cm] 60) := by
  have := heap_alloc_new (w.alloc (.cells #[.int .u8 tos, .int .u16 id, .bool keep, .int .u8 ttl, .int .u8 proto, .int .u32 src, .int .u32 dst, .slice ao zo.length co, .slice ad ld cd] 26)) (.cells #[Value.int .u16 sp, .int .u16 dp, .int .u32 sq, .int .u32 ak, .int .u8 fl, .int .u16 wn, .int .u16 ur, .slice aO os.length cO, .slice am zm.length cm] 60)
  rw [World.size_alloc] at this
  exact (Below.heap_alloc _ _ _ (by simp)).trans this
 have r0 : (((w.alloc (.cells #[.int .u8 tos, .int .u16 id, .bool keep, .int .u8 ttl, .int .u8 proto, .int .u32 src, .int .u32 dst, .slice ao zo.length co, .slice ad ld cd] 26)).alloc (.cells #[Value.int .u16 sp, .int .u16 dp, .int .u32 sq, .int .u32 ak, .int .u8 fl, .int .u16 wn, .int .u16 ur, .slice aO os.length cO, .slice am zm.length cm] 60)).alloc (.cells #[.int .u8 0, .int .u16 0, .bool false, .int .u8 0, .int .u8 0, .int .u32 0, .int .u32 0, .slice none 0 0, .slice none 0 0] 26)).heap[w.heap.size + 1 + 1]? = some (.cells #[.int .u8 0, .int .u16 0, .bool false, .int .u8 0, .int .u8 0, .int .u32 0, .int .u32 0, .slice none 0 0, .slice none 0 0] 26 (0, 0)) := by
  have := heap_alloc_new ((w.alloc (.cells #[.int .u8 tos, .int .u16 id, .bool keep, .int .u8 ttl, .int .u8 proto, .int .u32 src, .int .u32 dst, .slice ao zo.length co, .slice ad ld cd] 26)).alloc (.cells #[Value.int .u16 sp, .int .u16 dp, .int .u32 sq, .int .u32 ak, .int .u8 fl, .int .u16 wn, .int .u16 ur, .slice aO os.length cO, .slice am zm.length cm] 60)) (.cells #[.int .u8 0, .int .u16 0, .bool false, .int .u8 0, .int .u8 0, .int .u32 0, .int .u32 0, .slice none 0 0, .slice none 0 0] 26)
  simpa using this
 have P0 := hide p0
 have M0 := hide m0
 have R0 := hide r0
 clear p0 m0 r0
 go_enter Tryz.func38, Tryz.ntmps38
 go_wp2_with fail
 generalize ((w.alloc (.cells #[.int .u8 tos, .int .u16 id, .bool keep, .int .u8 ttl, .int .u8 proto, .int .u32 src, .int .u32 dst, .slice ao zo.length co, .slice ad ld cd] 26)).alloc (.cells #[Value.int .u16 sp, .int .u16 dp, .int .u32 sq, .int .u32 ak, .int .u8 fl, .int .u16 wn, .int .u16 ur, .slice aO os.length cO, .slice am zm.length cm] 60)).alloc (.cells #[.int .u8 0, .int .u16 0, .bool false, .int .u8 0, .int .u8 0, .int .u32 0, .int .u32 0, .slice none 0 0, .slice none 0 0] 26) = w0 at *
 refine (roptionBytes_any _ os w0 ((hIO.below hb0).mono hb0.size)).mono ?_
 rintro e w2 ⟨hb1, ⟨hno, rfl⟩ | ⟨hok, a6, c6, rfl, hOO⟩⟩
 ·have HF : Hid ((bte os zo.length zm.length) = 4) := if_neg hno
  have hw2 := hb0.trans (hb1.mono hb0.size)
  have r2 := later_keep hb1 R0.out
  clear hno
  have kX := block_cell r2
  have fX := block_frozen r2
  go_wp2_with fail
  generalize hV : ((((((((w2.setCell ⟨w.heap.size + 1 + 1, 0, none⟩ _).setCell ⟨w.heap.size + 1 + 1, 1, none⟩ _).setCell ⟨w.heap.size + 1 + 1, 2, none⟩ _).setCell ⟨w.heap.size + 1 + 1, 3, none⟩ _).setCell ⟨w.heap.size + 1 + 1, 4, none⟩ _).setCell ⟨w.heap.size + 1 + 1, 5, none⟩ _).setCell ⟨w.heap.size + 1 + 1, 6, none⟩ _).setCell ⟨w.heap.size + 1 + 1, 7, none⟩ _).setCell ⟨w.heap.size + 1 + 1, 8, none⟩ _ = V
  have hV8 : V = putRow w2 (w.heap.size + 1 + 1) 0 [.int .u8 0, .int .u16 0, .bool false, .int .u8 0, .int .u8 0, .int .u32 0, .int .u32 0, .slice none 0 0, .slice none 0 0] := hV.symm
  have hbV : But (fun b => b = w.heap.size + 1 + 1) w2 V := by rw [hV8]; exact putRow_rb _ _
  have pV := putRow_all [Value.int .u8 0, .int .u16 0, .bool false, .int .u8 0, .int .u8 0, .int .u32 0, .int .u32 0, .slice none 0 0, .slice none 0 0] r2 rfl
  rw [← hV8] at pV
  clear hV hV8 kX fX
  have PV := block_cell pV
  have hwV : Below w.heap.size w V := hw2.trans (hbV.below hw2.size (fun k hk e => by omega))
  exact bodyPost_ret (v := .tuple #[.agg #[.int .u8 0, .int .u16 0, .bool false, .int .u8 0, .int .u8 0, .int .u32 0, .int .u32 0, .slice none 0 0, .slice none 0 0], .int .i64 4]) (by simp [results, Tryz.results38, go_sem, PV]) rfl ⟨hwV, .inl ⟨by rw [HF.out]; decide, by rw [HF.out]⟩⟩
 ·have HE : Hid ((bte os zo.length zm.length) = flt zo.length (20 + (pad (obs os)).length + zm.length)) := if_pos hok
  have hobl := pad_le (obs os) hok.2
  have hobB := By_pad _ (By_obs os hBO hok.2)
  have p2 := later_keep hb1 P0.out
  have m2 := later_keep hb1 M0.out
  have r2 := later_keep hb1 R0.out
  have hw2 := hb0.trans (hb1.mono hb0.size)
  have hob4 := pad_mod (obs os)
  have HOB := hide hobB
  clear hok hobB
  generalize hpd : pad (obs os) = ob at *
  have HPD := hide hpd
  clear hpd
  have hsr2 := (bl9 r2)
  clear P0 M0 R0
  go_upto_region 5 with fail
  go_cut [8] (fun v wx => Rw w2 v ([sp, dp].flatMap b2) wx)
  case first =>
   refine anyT_begin (R := But (fun b => w2.heap.size ≤ b)) 10 rfl (by kernel_rfl) ?_
   have Q0 := (Rw.nil (Later.refl w2)).later (Later.drew w2)
   have md := Q0.block m2
   generalize w2.drew = Wd at *
   have ha : ∀ v1, But (fun b => w2.heap.size ≤ b) Wd v1 → ∀ i, v1.cell? ⟨w.heap.size + 1, i, none⟩ = #[Value.int .u16 sp, .int .u16 dp, .int .u32 sq, .int .u32 ak, .int .u8 fl, .int .u16 wn, .int .u16 ur, .slice aO os.length cO, .slice am zm.length cm][i]? := fun v1 h => block_cell ((h.block (w.heap.size + 1) (bl9 md) (by omega)).trans md)
   refine tV (But.pre _) 0 rfl rfl ?_; apply Exists.intro; refine ⟨fun v1 hv1 => ?_, ?_⟩; (· (go_simp; rfl)); simp only [Act.put, sA, sB, sC]
   refine tV (But.pre _) 1 rfl rfl ?_; apply Exists.intro; refine ⟨fun v1 hv1 => ?_, ?_⟩; (· (go_simp; rfl)); simp only [Act.put, sA, sB, sC]
   refine tV (But.pre _) 2 rfl rfl ?_; apply Exists.intro; refine ⟨fun v1 hv1 => ?_, ?_⟩; (· (go_simp; rfl)); simp only [Act.put, sA, sB, sC]
   refine tV (But.pre _) 5 rfl rfl ?_; apply Exists.intro; refine ⟨fun v1 hv1 => ?_, ?_⟩; (· (go_simp; rfl)); simp only [Act.put, sA, sB, sC]
   refine tV (But.pre _) 6 rfl rfl ?_; apply Exists.intro; refine ⟨fun v1 hv1 => ?_, ?_⟩; (· (go_simp; rfl)); simp only [Act.put, sA, sB, sC]
   refine anyT_one 3 rfl (by kernel_rfl) rfl ?_
   refine wp_enter 68 #[.int .u16 sp] (by go_simp) ?_
   refine (two_any sp hsp Wd).mono ?_
   rintro e w4 ⟨rfl, rfl⟩
   have R4 := Q0.later (later_two Wd (sp / 256) (sp % 256))
   have X4 := Rd.new2 (sp / 256) (sp % 256) 5 Wd
   refine ⟨But.of (later_two Wd (sp / 256) (sp % 256)), ?_⟩
   simp only [Act.put, sA, sB, sC]
   generalize Wd.alloc (.cells #[.int .u8 (sp / 256), .int .u8 (sp % 256)] 5) = W4 at *
   refine anyT_one 4 rfl (by kernel_rfl) rfl ?_
   obtain ⟨v5, W5, hrun5, R5, bt5⟩ := R4.app 24 _ _ _ X4 (by simp [b2, b4])
   refine wp_app (.tmp 20) (.tmp 23) 24 rfl _ _ rfl rfl _ W5 hrun5 ⟨bt5, ?_⟩
   simp only [Act.put, sA, sB, sC]
   refine anyT_one 7 rfl (by kernel_rfl) rfl ?_
   refine wp_enter 68 #[.int .u16 dp] (by go_simp) ?_
   refine (two_any dp hdp W5).mono ?_
   rintro e w4 ⟨rfl, rfl⟩
   have R6 := R5.later (later_two W5 (dp / 256) (dp % 256))
   have X6 := Rd.new2 (dp / 256) (dp % 256) 5 W5
   refine ⟨But.of (later_two W5 (dp / 256) (dp % 256)), ?_⟩
   simp only [Act.put, sA, sB, sC]
   generalize W5.alloc (.cells #[.int .u8 (dp / 256), .int .u8 (dp % 256)] 5) = W6 at *
   refine anyT_one 8 rfl (by kernel_rfl) rfl ?_
   obtain ⟨v7, W7, hrun7, R7, bt7⟩ := R6.app 24 _ _ _ X6 (by simp [b2, b4])
   refine wp_app (.tmp 24) (.tmp 27) 24 rfl _ _ rfl rfl _ W7 hrun7 ⟨bt7, ?_⟩
   simp only [Act.put, sA, sB, sC]
   refine anyT_one 9 rfl (by kernel_rfl) rfl ?_
   unfold Oper.wp
   go_simp
   refine ⟨But.refl _ _, ?_⟩
   refine anyT_done (by kernel_rfl) ?_
   skip
   clear ha hrun5 hrun7
   go_wp2_with fail
   go_meet
   case rel => exact R7
  case rest =>
   have R3 : Rw w2 _ ([sp, dp].flatMap b2) wc := hcut
   clear hcut
   go_upto_region 6 with fail
   go_cut [8] (fun v wx => Rw w2 v ([sp, dp].flatMap b2 ++ [sq, ak].flatMap b4) wx)
   case first =>
    refine anyT_begin (R := But (fun b => w2.heap.size ≤ b)) 10 rfl (by kernel_rfl) ?_
    have Q0 := R3.later (Later.drew wc)
    have md := Q0.block m2
    generalize wc.drew = Wd at *
    have ha : ∀ v1, But (fun b => w2.heap.size ≤ b) Wd v1 → ∀ i, v1.cell? ⟨w.heap.size + 1, i, none⟩ = #[Value.int .u16 sp, .int .u16 dp, .int .u32 sq, .int .u32 ak, .int .u8 fl, .int .u16 wn, .int .u16 ur, .slice aO os.length cO, .slice am zm.length cm][i]? := fun v1 h => block_cell ((h.block (w.heap.size + 1) (bl9 md) (by omega)).trans md)
    refine tV (But.pre _) 0 rfl rfl ?_; apply Exists.intro; refine ⟨fun v1 hv1 => ?_, ?_⟩; (· (go_simp; rfl)); simp only [Act.put, sA, sB, sC]
    refine tV (But.pre _) 1 rfl rfl ?_; apply Exists.intro; refine ⟨fun v1 hv1 => ?_, ?_⟩; (· (go_simp; rfl)); simp only [Act.put, sA, sB, sC]
    refine tV (But.pre _) 2 rfl rfl ?_; apply Exists.intro; refine ⟨fun v1 hv1 => ?_, ?_⟩; (· (go_simp; rfl)); simp only [Act.put, sA, sB, sC]
    refine tV (But.pre _) 5 rfl rfl ?_; apply Exists.intro; refine ⟨fun v1 hv1 => ?_, ?_⟩; (· (go_simp; rfl)); simp only [Act.put, sA, sB, sC]
    refine tV (But.pre _) 6 rfl rfl ?_; apply Exists.intro; refine ⟨fun v1 hv1 => ?_, ?_⟩; (· (go_simp; rfl)); simp only [Act.put, sA, sB, sC]
    refine anyT_one 3 rfl (by kernel_rfl) rfl ?_
    refine wp_enter 34 #[.int .u32 sq] (by go_simp) ?_
    refine (four_any sq hsq Wd).mono ?_
    rintro e w4 ⟨rfl, rfl⟩
    have R4 := Q0.later (later_four Wd (sq / 16777216) (sq / 65536 % 256) (sq / 256 % 256) (sq % 256))
    have X4 := Rd.new4 (sq / 16777216) (sq / 65536 % 256) (sq / 256 % 256) (sq % 256) 5 Wd
    refine ⟨But.of (later_four Wd (sq / 16777216) (sq / 65536 % 256) (sq / 256 % 256) (sq % 256)), ?_⟩
    simp only [Act.put, sA, sB, sC]
    generalize Wd.alloc (.cells #[.int .u8 (sq / 16777216), .int .u8 (sq / 65536 % 256), .int .u8 (sq / 256 % 256), .int .u8 (sq % 256)] 5) = W4 at *
    refine anyT_one 4 rfl (by kernel_rfl) rfl ?_
    obtain ⟨v5, W5, hrun5, R5, bt5⟩ := R4.app 24 _ _ _ X4 (by simp [b2, b4])
    refine wp_app (.tmp 29) (.tmp 32) 24 rfl _ _ rfl rfl _ W5 hrun5 ⟨bt5, ?_⟩
    simp only [Act.put, sA, sB, sC]
    refine anyT_one 7 rfl (by kernel_rfl) rfl ?_
    refine wp_enter 34 #[.int .u32 ak] (by go_simp) ?_
    refine (four_any ak hak W5).mono ?_
    rintro e w4 ⟨rfl, rfl⟩
    have R6 := R5.later (later_four W5 (ak / 16777216) (ak / 65536 % 256) (ak / 256 % 256) (ak % 256))
    have X6 := Rd.new4 (ak / 16777216) (ak / 65536 % 256) (ak / 256 % 256) (ak % 256) 5 W5
    refine ⟨But.of (later_four W5 (ak / 16777216) (ak / 65536 % 256) (ak / 256 % 256) (ak % 256)), ?_⟩
    simp only [Act.put, sA, sB, sC]
    generalize W5.alloc (.cells #[.int .u8 (ak / 16777216), .int .u8 (ak / 65536 % 256), .int .u8 (ak / 256 % 256), .int .u8 (ak % 256)] 5) = W6 at *
    refine anyT_one 8 rfl (by kernel_rfl) rfl ?_
    obtain ⟨v7, W7, hrun7, R7, bt7⟩ := R6.app 24 _ _ _ X6 (by simp [b2, b4])
    refine wp_app (.tmp 33) (.tmp 36) 24 rfl _ _ rfl rfl _ W7 hrun7 ⟨bt7, ?_⟩
    simp only [Act.put, sA, sB, sC]
    refine anyT_one 9 rfl (by kernel_rfl) rfl ?_
    unfold Oper.wp
    go_simp
    refine ⟨But.refl _ _, ?_⟩
    refine anyT_done (by kernel_rfl) ?_
    rw [four_b4 sq hsq, four_b4 ak hak, List.append_assoc, show b4 sq ++ b4 ak = [sq, ak].flatMap b4 from by simp] at R7
    clear ha hrun5 hrun7
    go_wp2_with fail
    go_meet
    case rel => exact R7
   case rest =>
    have R8 : Rw w2 _ ([sp, dp].flatMap b2 ++ [sq, ak].flatMap b4) wc := hcut
    clear hcut R3
    generalize hys : [sp, dp].flatMap b2 ++ [sq, ak].flatMap b4 = ys8 at *
    have hyl : ys8.length = 12 := by rw [← hys]; simp [b2, b4]
    have HYS := hide hys
    have HYL := hide hyl
    clear hys hyl
    have mc := block_cell (R8.block m2)
    have hol : (ob.length : Int) ≤ 40 := by omega
    have hq : (20 + (ob.length : Int)).tdiv 4 = (20 + ob.length) / 4 := Int.tdiv_eq_ediv_of_nonneg (by omega)
    have R9 := R8.later (later_two wc ((20 + ob.length) / 4 * 16) fl)
    have X9 := Rd.new2 ((20 + (ob.length : Int)) / 4 * 16) fl 5 wc
    go_wp2_with (at_builtin; go_loud (refine wpList_rw _ rfl (.tmp 38) (.tmp 47) rfl R9 rfl _ _ _ rfl X9 (by rw [HYL.out]; simp) ?_; intro v10 W10 R10; refine Hid.out ?_))
    have m10 := block_cell (R10.block m2)
    clear mc R8 R9 X9
    show wpList _ _ _ _ _ _
    go_wp2_with fail
    refine (two_any wn hwn W10).mono ?_
    rintro e w4 ⟨rfl, rfl⟩
    have R11 := R10.later (later_two W10 (wn / 256) (wn % 256))
    have X11 := Rd.new2 (wn / 256) (wn % 256) 5 W10
    clear m10 R10
    generalize W10.alloc (.cells #[.int .u8 (wn / 256), .int .u8 (wn % 256)] 5) = W11 at *
    generalize some (⟨W10.heap.size, 0, none⟩ : Addr) = a11 at *
    go_wp2_with (at_builtin; go_loud (refine wpList_rw _ rfl (.tmp 49) (.tmp 52) rfl R11 rfl _ _ _ rfl X11 (by simp only [List.length_append]; rw [HYL.out]; simp) ?_; intro v12 W12 R12; refine Hid.out ?_))
    have R13 := R12.later (later_two W12 0 0)
    have X13 := Rd.new2 0 0 5 W12
    show wpList _ _ _ _ _ _
    go_wp2_with (at_builtin; go_loud (refine wpList_rw _ rfl (.tmp 53) (.tmp 54) rfl R13 rfl _ _ _ rfl X13 (by simp only [List.length_append]; rw [HYL.out]; simp) ?_; intro v14 W14 R14; refine Hid.out ?_))
    have m14 := block_cell (R14.block m2)
    clear R11 X11 R12 R13 X13
    show wpList _ _ _ _ _ _
    go_wp2_with fail
    refine (two_any ur hur W14).mono ?_
    rintro e w4 ⟨rfl, rfl⟩
    have R15 := R14.later (later_two W14 (ur / 256) (ur % 256))
    have X15 := Rd.new2 (ur / 256) (ur % 256) 5 W14
    clear m14 R14
    generalize W14.alloc (.cells #[.int .u8 (ur / 256), .int .u8 (ur % 256)] 5) = W15 at *
    generalize some (⟨W14.heap.size, 0, none⟩ : Addr) = a15 at *
    go_wp2_with (at_builtin; go_loud (refine wpList_rw _ rfl (.tmp 56) (.tmp 59) rfl R15 rfl _ _ _ rfl X15 (by simp only [List.length_append]; rw [HYL.out]; simp) ?_; intro v16 W16 R16; refine Hid.out ?_))
    have X16 := hOO.rd.below R16.2
    show wpList _ _ _ _ _ _
    go_wp2_with (at_builtin; go_loud (refine wpList_rw _ rfl (.tmp 60) (.tmp 61) rfl R16 rfl _ _ _ rfl X16 (by simp only [List.length_append]; rw [HYL.out]; simp; omega) ?_; intro v17 W17 R17; refine Hid.out ?_))
    have m17 := block_cell (R17.block m2)
    have X17 : Rd w.heap.size W17 (.slice am zm.length cm) zm := hIm.below (hw2.trans (R17.2.mono hw2.size))
    clear R15 X15 R16 X16
    show wpList _ _ _ _ _ _
    go_wp2_with (at_builtin; go_loud (refine wpList_rw _ rfl (.tmp 63) (.tmp 65) rfl R17 rfl _ _ _ rfl X17 (by simp only [List.length_append]; rw [HYL.out]; simp; omega) ?_; intro v18 W18 R18; refine Hid.out ?_))
    have hlist : ys8 ++ [(20 + (ob.length : Int)) / 4 * 16, fl] ++ [wn / 256, wn % 256] ++ [0, 0] ++ [ur / 256, ur % 256] ++ ob ++ zm = tcp0 sp dp sq ak fl wn ur ob zm := by rw [← HYS.out]; simp [tcp0, b2, b4]
    rw [hlist] at R18
    have p18 := R18.block p2
    have r18 := R18.block r2
    have PP := block_cell p18
    have hO18 := R18.ow
    have hw18 := hw2.trans (R18.2.mono hw2.size)
    have hBt := By_tcp0 sp dp sq ak fl wn ur ob zm hsp hdp hsq hak hfl hwn hur hobl HOB.out hBm
    have HLT := hide (tcp0_length sp dp sq ak fl wn ur ob zm)
    have HLC := hide (tcp_length sp dp sq ak fl wn ur ob src dst zm)
    have HUD : Hid (putAt2 (tcp0 sp dp sq ak fl wn ur ob zm) 16 (Mt.cks (psd src dst 6 (tcp0 sp dp sq ak fl wn ur ob zm).length ++ tcp0 sp dp sq ak fl wn ur ob zm)) = tcp sp dp sq ak fl wn ur ob src dst zm) := by show _ = _; unfold putAt2 tcp; rw [if_pos (by rw [HLT.out]; omega), HLT.out]; rfl
    clear m17 X17 R17 R18 hlist HYS HYL p2 m2 r2 hOO hq
    generalize tcp0 sp dp sq ak fl wn ur ob zm = bb at *
    obtain ⟨a18, c18, rfl, _, _⟩ := hO18.slice
    show wpList _ _ _ _ _ _
    go_wp2_with fail
    refine (rwith_any tos id ttl proto src dst 6 keep _ _ ad ld cd zo [] W18 ((hIo.below hw18).mono hw18.size) (rd_zero W18) h1 (by simp)).mono ?_
    rintro e W19 ⟨hb19, ⟨hf, rfl⟩ | ⟨hf, a7, c7, a8, c8, rfl, hO1, hD1⟩⟩
    ·obtain ⟨f4, f4'⟩ := flt_none zo.length hf (20 + ob.length + zm.length)
     have HF := hide (HE.out.trans f4')
     rw [show ([] : List Int).length = 0 from rfl, f4]
     clear f4 f4' hf HE PP
     have lq : Later W19 (W19.alloc (.cells #[.int .u8 0, .int .u16 0, .bool false, .int .u8 0, .int .u8 0, .int .u32 0, .int .u32 0, .slice none 0 0, .slice none 0 0] 26)) := (Below.refl _ _).alloc (Nat.le_refl _) _
     have l19 := Later.trans hb19 lq
     have r20 := later_keep l19 r18
     have hw20 := hw18.trans (l19.mono hw18.size)
     have kX := block_cell r20
     have fX := block_frozen r20
     go_wp2_with fail
     generalize W19.alloc (.cells #[.int .u8 0, .int .u16 0, .bool false, .int .u8 0, .int .u8 0, .int .u32 0, .int .u32 0, .slice none 0 0, .slice none 0 0] 26) = W20 at *
     generalize hV : ((((((((W20.setCell ⟨w.heap.size + 1 + 1, 0, none⟩ _).setCell ⟨w.heap.size + 1 + 1, 1, none⟩ _).setCell ⟨w.heap.size + 1 + 1, 2, none⟩ _).setCell ⟨w.heap.size + 1 + 1, 3, none⟩ _).setCell ⟨w.heap.size + 1 + 1, 4, none⟩ _).setCell ⟨w.heap.size + 1 + 1, 5, none⟩ _).setCell ⟨w.heap.size + 1 + 1, 6, none⟩ _).setCell ⟨w.heap.size + 1 + 1, 7, none⟩ _).setCell ⟨w.heap.size + 1 + 1, 8, none⟩ _ = V
     have hV8 : V = putRow W20 (w.heap.size + 1 + 1) 0 [.int .u8 0, .int .u16 0, .bool false, .int .u8 0, .int .u8 0, .int .u32 0, .int .u32 0, .slice none 0 0, .slice none 0 0] := hV.symm
     have hbV : But (fun b => b = w.heap.size + 1 + 1) W20 V := by rw [hV8]; exact putRow_rb _ _
     have pV := putRow_all [Value.int .u8 0, .int .u16 0, .bool false, .int .u8 0, .int .u8 0, .int .u32 0, .int .u32 0, .slice none 0 0, .slice none 0 0] r20 rfl
     rw [← hV8] at pV
     clear hV hV8 kX fX
     have PV := block_cell pV
     have hwV : Below w.heap.size w V := hw20.trans (hbV.below hw20.size (fun k hk e => by omega))
     exact bodyPost_ret (v := .tuple #[.agg #[.int .u8 0, .int .u16 0, .bool false, .int .u8 0, .int .u8 0, .int .u32 0, .int .u32 0, .slice none 0 0, .slice none 0 0], .int .i64 4]) (by simp [results, Tryz.results38, go_sem, PV]) rfl ⟨hwV, .inl ⟨by rw [HF.out]; decide, by rw [HF.out]⟩⟩
    ·have f0 := HE.out.trans (flt_some zo.length hf (20 + ob.length + zm.length))
     have HE0 := HE
     clear hf HE PP
     rw [show ([] : List Int).length = 0 from rfl] at *
     have lq : Later W19 (W19.alloc (.cells #[.int .u8 tos, .int .u16 id, .bool keep, .int .u8 ttl, .int .u8 6, .int .u32 src, .int .u32 dst, .slice a7 zo.length c7, .slice a8 0 c8] 26)) := (Below.refl _ _).alloc (Nat.le_refl _) _
     have l19 := Later.trans hb19 lq
     have r20 := later_keep l19 r18
     have p20 := later_keep l19 p18
     have hO20 := hO18.later l19
     have hw20 := hw18.trans (l19.mono hw18.size)
     have PP := block_cell p20
     have hbl : (bb.length : Int) = 20 + ob.length + zm.length := by have := HLT.out; omega
     by_cases c3 : 65535 < 20 + zo.length + (20 + ob.length + zm.length)
     ·have t3 : (65535 : Int) < 20 + zo.length + bb.length := by omega
      rw [if_pos c3] at f0
      have HF := hide f0
      have hbm : bb.length ≤ 140737488355400 := by omega
      clear f0 c3 hbl
      have kX := block_cell r20
      have fX := block_frozen r20
      go_wp2_with fail
      generalize W19.alloc (.cells #[.int .u8 tos, .int .u16 id, .bool keep, .int .u8 ttl, .int .u8 6, .int .u32 src, .int .u32 dst, .slice a7 zo.length c7, .slice a8 0 c8] 26) = W20 at *
      generalize hV : ((((((((W20.setCell ⟨w.heap.size + 1 + 1, 0, none⟩ _).setCell ⟨w.heap.size + 1 + 1, 1, none⟩ _).setCell ⟨w.heap.size + 1 + 1, 2, none⟩ _).setCell ⟨w.heap.size + 1 + 1, 3, none⟩ _).setCell ⟨w.heap.size + 1 + 1, 4, none⟩ _).setCell ⟨w.heap.size + 1 + 1, 5, none⟩ _).setCell ⟨w.heap.size + 1 + 1, 6, none⟩ _).setCell ⟨w.heap.size + 1 + 1, 7, none⟩ _).setCell ⟨w.heap.size + 1 + 1, 8, none⟩ _ = V
      have hV8 : V = putRow W20 (w.heap.size + 1 + 1) 0 [.int .u8 0, .int .u16 0, .bool false, .int .u8 0, .int .u8 0, .int .u32 0, .int .u32 0, .slice none 0 0, .slice none 0 0] := hV.symm
      have hbV : But (fun b => b = w.heap.size + 1 + 1) W20 V := by rw [hV8]; exact putRow_rb _ _
      have pV := putRow_all [Value.int .u8 0, .int .u16 0, .bool false, .int .u8 0, .int .u8 0, .int .u32 0, .int .u32 0, .slice none 0 0, .slice none 0 0] r20 rfl
      rw [← hV8] at pV
      clear hV hV8 kX fX
      have PV := block_cell pV
      have hwV : Below w.heap.size w V := hw20.trans (hbV.below hw20.size (fun k hk e => by omega))
      exact bodyPost_ret (v := .tuple #[.agg #[.int .u8 0, .int .u16 0, .bool false, .int .u8 0, .int .u8 0, .int .u32 0, .int .u32 0, .slice none 0 0, .slice none 0 0], .int .i64 8]) (by simp [results, Tryz.results38, go_sem, PV]) rfl ⟨hwV, .inl ⟨by rw [HF.out]; decide, by rw [HF.out]⟩⟩
     ·have t3 : ¬ (65535 : Int) < 20 + zo.length + bb.length := by omega
      rw [if_neg c3] at f0
      have HF := hide f0
      have HE2 : Hid (flt zo.length (20 + ob.length + zm.length) = 0) := HE0.out.symm.trans f0
      have hz : bb.length ≤ 65535 := by omega
      clear f0 hbl
      go_wp2_with fail
      clear PP lq l19
      generalize W19.alloc (.cells #[.int .u8 tos, .int .u16 id, .bool keep, .int .u8 ttl, .int .u8 6, .int .u32 src, .int .u32 dst, .slice a7 zo.length c7, .slice a8 0 c8] 26) = W20 at *
      refine (rsum3_any tos id ttl proto src dst 6 keep _ _ _ bb W20 hBt hO20.rd (by omega) (by omega) hsr hds).mono ?_
      rintro e W21 ⟨rfl, hb21⟩
      have hcb := Mt.cks_bd (psd src dst 6 bb.length ++ bb)
      generalize Mt.cks (psd src dst 6 bb.length ++ bb) = c at *
      go_wp2_with fail
      refine (rput16_any _ bb 16 c (by omega) (by omega) W21 (hO20.later hb21).rd hcb).mono ?_
      rintro e W22 ⟨rv, rfl, hO22, hb22⟩
      rw [HUD.out] at hO22
      obtain ⟨a22, c22, rfl, _, _⟩ := hO22.slice
      have l22 : Later W20 W22 := Later.trans hb21 hb22
      have PP := block_cell (later_keep l22 p20)
      go_wp2_with fail
      have rn := later_keep l22 r20
      have hwn' := hw20.trans (l22.mono hw20.size)
      refine (rwith_any tos id ttl proto src dst 6 keep _ _ ad ld cd zo (tcp sp dp sq ak fl wn ur ob src dst zm) W22 ((hIo.below hwn').mono hwn'.size) hO22.rd h1 (by rw [HLC.out]; omega)).mono ?_
      rw [HLC.out, show flt zo.length (20 + ob.length + zm.length) = 0 from HE2.out]
      rintro e WX ⟨hbX, ⟨hx, _⟩ | ⟨_, a9, c9, ad9, cd9, rfl, hO9, hD9⟩⟩
      case inl => exact absurd rfl hx
      have rX := later_keep hbX rn
      have hwX := hwn'.trans (hbX.mono hwn'.size)
      clear PP
      have kX := block_cell rX
      have fX := block_frozen rX
      go_wp2_with fail
      generalize hV : ((((((((WX.setCell ⟨w.heap.size + 1 + 1, 0, none⟩ _).setCell ⟨w.heap.size + 1 + 1, 1, none⟩ _).setCell ⟨w.heap.size + 1 + 1, 2, none⟩ _).setCell ⟨w.heap.size + 1 + 1, 3, none⟩ _).setCell ⟨w.heap.size + 1 + 1, 4, none⟩ _).setCell ⟨w.heap.size + 1 + 1, 5, none⟩ _).setCell ⟨w.heap.size + 1 + 1, 6, none⟩ _).setCell ⟨w.heap.size + 1 + 1, 7, none⟩ _).setCell ⟨w.heap.size + 1 + 1, 8, none⟩ _ = V
      have hV8 : V = putRow WX (w.heap.size + 1 + 1) 0 [.int .u8 tos, .int .u16 id, .bool keep, .int .u8 ttl, .int .u8 6, .int .u32 src, .int .u32 dst, .slice a9 zo.length c9, .slice ad9 (20 + ob.length + zm.length) cd9] := hV.symm
      have hbV : But (fun b => b = w.heap.size + 1 + 1) WX V := by rw [hV8]; exact putRow_rb _ _
      have pV := putRow_all [Value.int .u8 tos, .int .u16 id, .bool keep, .int .u8 ttl, .int .u8 6, .int .u32 src, .int .u32 dst, .slice a9 zo.length c9, .slice ad9 (20 + ob.length + zm.length) cd9] rX rfl
      rw [← hV8] at pV
      clear hV hV8 kX fX
      have PV := block_cell pV
      have hwV : Below w.heap.size w V := hwX.trans (hbV.below hwX.size (fun k hk e => by omega))
      exact bodyPost_ret (v := .tuple #[.agg #[.int .u8 tos, .int .u16 id, .bool keep, .int .u8 ttl, .int .u8 6, .int .u32 src, .int .u32 dst, .slice a9 zo.length c9, .slice ad9 (20 + ob.length + zm.length) cd9], .int .i64 0]) (by simp [results, Tryz.results38, go_sem, PV]) rfl ⟨hwV, .inr ⟨HF.out, a9, c9, ad9, cd9, by rw [HPD.out], (hO9.apart rX (by decide) hbV).mono hwn'.size, by rw [HPD.out]; exact (hD9.apart rX (by decide) hbV).mono hwn'.size⟩⟩
end Go.Proofs.YtghpakfjpdifaaaGreatDoor

/- The document's BuildGre. -/
namespace Go.Proofs.YtghpakfjpdifaaaGreatDoor
open Go.RowKit Go.Shelf
set_option maxRecDepth 100000
set_option linter.unusedVariables false
set_option linter.unusedSimpArgs false

/-- A byte of a row stored anew. -/
theorem row_set {W : World} {base : Nat} {v : Value} {ys : List Int} (h : W.ownsRow base 5 1 v ys.length (ys.map (Value.int .u8))) (j : Nat) (hj : j < ys.length) (z : Int) :
  ∃ g cap, v = .slice (some ⟨g, 0, none⟩) ys.length cap ∧ base ≤ g ∧ W.cell? ⟨g, j, none⟩ = some (.int .u8 (ys[j]?.getD 0)) ∧ W.frozen? ⟨g, j, none⟩ = false ∧ (W.setCell ⟨g, j, none⟩ (.int .u8 z)).ownsRow base 5 1 v (ys.set j z).length ((ys.set j z).map (Value.int .u8)) := by
 have hO := Ow.of_row h
 obtain ⟨hn, hr⟩ := h
 rcases hr with ⟨rfl, hn0⟩ | ⟨g, cap, cur, rfl, hg, hh, h1, h2, h3, h4⟩
 ·omega
 ·obtain ⟨g', e', _, _, hcf, _⟩ := hO.at (by omega)
  simp at e'
  subst e'
  refine ⟨g, cap, rfl, hg, (hcf j hj).1, (hcf j hj).2, by simp, .inr ⟨g, cap, _, by simp, hg, heap_set1 hh j (.int .u8 z), by simpa using h1, h2, by simpa using h3, ?_⟩⟩
  rw [Array.toList_setIfInBounds, List.length_set, List.take_set, h4, List.map_set]

set_option maxHeartbeats 8000000 in
theorem rbuildGre_any (tos id ttl proto src dst cl sq ak : Int) (keep hs ha : Bool) (so sm : Value) (ad : Option Addr) (ld cd : Nat) (zo zd : List Int) (w : World) (hIo : Rd w.heap.size w so zo) (hBd : Mt.By zd) (hIm : Rd w.heap.size w sm zd)
  (h1 : zo.length ≤ 140737488355328) (h2 : 16 + zd.length ≤ 140737488355328) (hcl : 0 ≤ cl ∧ cl ≤ 65535) (hsq : 0 ≤ sq ∧ sq ≤ 4294967295) (hak : 0 ≤ ak ∧ ak ≤ 4294967295) (hg : grf hs ha sq ak = false) :
  Calls Tryz.prog 39 #[.agg #[.int .u8 tos, .int .u16 id, .bool keep, .int .u8 ttl, .int .u8 proto, .int .u32 src, .int .u32 dst, so, .slice ad ld cd], .agg #[.int .u16 cl, .bool hs, .bool ha, .int .u32 sq, .int .u32 ak, sm]] w fun e w' => Below w.heap.size w w' ∧ ((flt zo.length (grn hs ha zd.length) ≠ 0 ∧ e = .returned (.tuple #[.agg #[.int .u8 0, .int .u16 0, .bool false, .int .u8 0, .int .u8 0, .int .u32 0, .int .u32 0, .slice none 0 0, .slice none 0 0], .int .i64 (flt zo.length (grn hs ha zd.length))])) ∨
   (flt zo.length (grn hs ha zd.length) = 0 ∧ ∃ a7 c7 a8 c8, e = .returned (.tuple #[.agg #[.int .u8 tos, .int .u16 id, .bool keep, .int .u8 ttl, .int .u8 47, .int .u32 src, .int .u32 dst, .slice a7 zo.length c7, .slice a8 (grn hs ha zd.length) c8], .int .i64 0]) ∧ Ow w.heap.size w' (.slice a7 zo.length c7) zo ∧ Ow w.heap.size w' (.slice a8 (grn hs ha zd.length) c8) (grb cl hs ha sq ak zd))) := by
 obtain ⟨ao, co, rfl, _, _⟩ := hIo.slice
 obtain ⟨am, cm, rfl, _, _⟩ := hIm.slice
 have hb0 : Below w.heap.size w (((w.alloc (.cells #[.int .u8 tos, .int .u16 id, .bool keep, .int .u8 ttl, .int .u8 proto, .int .u32 src, .int .u32 dst, .slice ao zo.length co, .slice ad ld cd] 26)).alloc (.cells #[.int .u16 cl, .bool hs, .bool ha, .int .u32 sq, .int .u32 ak, .slice am zd.length cm] 68)).alloc (.cells #[.int .u8 0, .int .u16 0, .bool false, .int .u8 0, .int .u8 0, .int .u32 0, .int .u32 0, .slice none 0 0, .slice none 0 0] 26)) := (((Below.refl _ _).alloc (Nat.le_refl _) _).alloc (by simp) _).alloc (by simp; omega) _
 have p0 : (((w.alloc (.cells #[.int .u8 tos, .int .u16 id, .bool keep, .int .u8 ttl, .int .u8 proto, .int .u32 src, .int .u32 dst, .slice ao zo.length co, .slice ad ld cd] 26)).alloc (.cells #[.int .u16 cl, .bool hs, .bool ha, .int .u32 sq, .int .u32 ak, .slice am zd.length cm] 68)).alloc (.cells #[.int .u8 0, .int .u16 0, .bool false, .int .u8 0, .int .u8 0, .int .u32 0, .int .u32 0, .slice none 0 0, .slice none 0 0] 26)).heap[w.heap.size]? = some (.cells #[.int .u8 tos, .int .u16 id, .bool keep, .int .u8 ttl, .int .u8 proto, .int .u32 src, .int .u32 dst, .slice ao zo.length co, .slice ad ld cd] 26) := (Below.heap_alloc _ _ _ (by simp; omega)).trans ((Below.heap_alloc _ _ _ (by simp)).trans (heap_alloc_new w _))
 have m0 : (((w.alloc (.cells #[.int .u8 tos, .int .u16 id, .bool keep, .int .u8 ttl, .int .u8 proto, .int .u32 src, .int .u32 dst, .slice ao zo.length co, .slice ad ld cd] 26)).alloc (.cells #[.int .u16 cl, .bool hs, .bool ha, .int .u32 sq, .int .u32 ak, .slice am zd.length cm] 68)).alloc (.cells #[.int .u8 0, .int .u16 0, .bool false, .int .u8 0, .int .u8 0, .int .u32 0, .int .u32 0, .slice none 0 0, .slice none 0 0] 26)).heap[w.heap.size + 1]? = some (.cells #[.int .u16 cl, .bool hs, .bool ha, .int .u32 sq, .int .u32 ak, .slice am zd.length cm] 68) := by
  have := heap_alloc_new (w.alloc (.cells #[.int .u8 tos, .int .u16 id, .bool keep, .int .u8 ttl, .int .u8 proto, .int .u32 src, .int .u32 dst, .slice ao zo.length co, .slice ad ld cd] 26)) (.cells #[.int .u16 cl, .bool hs, .bool ha, .int .u32 sq, .int .u32 ak, .slice am zd.length cm] 68)
  rw [World.size_alloc] at this
  exact (Below.heap_alloc _ _ _ (by simp)).trans this
 have r0 : (((w.alloc (.cells #[.int .u8 tos, .int .u16 id, .bool keep, .int .u8 ttl, .int .u8 proto, .int .u32 src, .int .u32 dst, .slice ao zo.length co, .slice ad ld cd] 26)).alloc (.cells #[.int .u16 cl, .bool hs, .bool ha, .int .u32 sq, .int .u32 ak, .slice am zd.length cm] 68)).alloc (.cells #[.int .u8 0, .int .u16 0, .bool false, .int .u8 0, .int .u8 0, .int .u32 0, .int .u32 0, .slice none 0 0, .slice none 0 0] 26)).heap[w.heap.size + 1 + 1]? = some (.cells #[.int .u8 0, .int .u16 0, .bool false, .int .u8 0, .int .u8 0, .int .u32 0, .int .u32 0, .slice none 0 0, .slice none 0 0] 26 (0, 0)) := by
  have := heap_alloc_new ((w.alloc (.cells #[.int .u8 tos, .int .u16 id, .bool keep, .int .u8 ttl, .int .u8 proto, .int .u32 src, .int .u32 dst, .slice ao zo.length co, .slice ad ld cd] 26)).alloc (.cells #[.int .u16 cl, .bool hs, .bool ha, .int .u32 sq, .int .u32 ak, .slice am zd.length cm] 68)) (.cells #[.int .u8 0, .int .u16 0, .bool false, .int .u8 0, .int .u8 0, .int .u32 0, .int .u32 0, .slice none 0 0, .slice none 0 0] 26)
  simpa using this
 have P0 := hide p0
 have M0 := hide m0
 have R0 := hide r0
 clear p0 m0 r0
 obtain ⟨gn, HGN⟩ : ∃ gn, Hid (grn hs ha zd.length = gn) := ⟨_, rfl⟩
 go_enter Tryz.func39, Tryz.ntmps39
 go_upto_region 1 with fail
 go_cut [26] (fun z wx => z = .bool false ∧ wx = ((w.alloc (.cells #[.int .u8 tos, .int .u16 id, .bool keep, .int .u8 ttl, .int .u8 proto, .int .u32 src, .int .u32 dst, .slice ao zo.length co, .slice ad ld cd] 26)).alloc (.cells #[.int .u16 cl, .bool hs, .bool ha, .int .u32 sq, .int .u32 ak, .slice am zd.length cm] 68)).alloc (.cells #[.int .u8 0, .int .u16 0, .bool false, .int .u8 0, .int .u8 0, .int .u32 0, .int .u32 0, .slice none 0 0, .slice none 0 0] 26))
 case first =>
  cases hs
  ·have hq : (sq != 0) = false := by simp [grf] at hg; simp [hg.1]
   cases ha
   ·have hk : (ak != 0) = false := by simp [grf] at hg; simp [hg.2]
    clear hg
    go_wp2_with fail
    go_meet
    case rel => exact ⟨rfl, rfl⟩
   ·clear hg
    go_wp2_with fail
    go_meet
    case rel => exact ⟨rfl, rfl⟩
  ·cases ha
   ·have hk : (ak != 0) = false := by simp [grf] at hg; simp [hg]
    clear hg
    go_wp2_with fail
    go_meet
    case rel => exact ⟨rfl, rfl⟩
   ·clear hg
    go_wp2_with fail
    go_meet
    case rel => exact ⟨rfl, rfl⟩
 case rest =>
 obtain ⟨rfl, rfl⟩ := hcut
 clear hg
 go_wp2_with fail
 generalize ((w.alloc (.cells #[.int .u8 tos, .int .u16 id, .bool keep, .int .u8 ttl, .int .u8 proto, .int .u32 src, .int .u32 dst, .slice ao zo.length co, .slice ad ld cd] 26)).alloc (.cells #[.int .u16 cl, .bool hs, .bool ha, .int .u32 sq, .int .u32 ak, .slice am zd.length cm] 68)).alloc (.cells #[.int .u8 0, .int .u16 0, .bool false, .int .u8 0, .int .u8 0, .int .u32 0, .int .u32 0, .slice none 0 0, .slice none 0 0] 26) = w0 at *
 refine (rwith_any tos id ttl proto src dst 47 keep _ _ ad ld cd zo [] w0 ((hIo.below hb0).mono hb0.size) (rd_zero w0) h1 (by simp)).mono ?_
 rintro e w1 ⟨hb1, ⟨hf, rfl⟩ | ⟨hf, a7, c7, a8, c8, rfl, hO1, hD1⟩⟩
 ·obtain ⟨f4, f4'⟩ := flt_none zo.length hf gn
  rw [show ([] : List Int).length = 0 from rfl, f4]
  have HF := hide f4'
  clear f4 f4' hf
  have l2 : Later w1 (w1.alloc (.cells #[.int .u8 0, .int .u16 0, .bool false, .int .u8 0, .int .u8 0, .int .u32 0, .int .u32 0, .slice none 0 0, .slice none 0 0] 26)) := (Below.refl _ _).alloc (Nat.le_refl _) _
  have l02 := Later.trans hb1 l2
  have r2 := (l02.block (w.heap.size + 1 + 1) (bl9 R0.out)).trans R0.out
  have hw2 := hb0.trans (l02.mono hb0.size)
  have RR := block_cell r2
  have FF := block_frozen r2
  go_wp2_with fail
  generalize w1.alloc (.cells #[.int .u8 0, .int .u16 0, .bool false, .int .u8 0, .int .u8 0, .int .u32 0, .int .u32 0, .slice none 0 0, .slice none 0 0] 26) = w2 at *
  generalize hV : ((((((((w2.setCell ⟨w.heap.size + 1 + 1, 0, none⟩ _).setCell ⟨w.heap.size + 1 + 1, 1, none⟩ _).setCell ⟨w.heap.size + 1 + 1, 2, none⟩ _).setCell ⟨w.heap.size + 1 + 1, 3, none⟩ _).setCell ⟨w.heap.size + 1 + 1, 4, none⟩ _).setCell ⟨w.heap.size + 1 + 1, 5, none⟩ _).setCell ⟨w.heap.size + 1 + 1, 6, none⟩ _).setCell ⟨w.heap.size + 1 + 1, 7, none⟩ _).setCell ⟨w.heap.size + 1 + 1, 8, none⟩ _ = V8
  have hV9 : V8 = putRow w2 (w.heap.size + 1 + 1) 0 [Value.int .u8 0, .int .u16 0, .bool false, .int .u8 0, .int .u8 0, .int .u32 0, .int .u32 0, .slice none 0 0, .slice none 0 0] := hV.symm
  have hb8 : But (fun b => b = w.heap.size + 1 + 1) w2 V8 := by rw [hV9]; exact putRow_but (E := fun b => b = w.heap.size + 1 + 1) (n := w.heap.size + 1 + 1) rfl _ _ _ _ (But.refl _ _)
  have p8 := putRow_all [Value.int .u8 0, .int .u16 0, .bool false, .int .u8 0, .int .u8 0, .int .u32 0, .int .u32 0, .slice none 0 0, .slice none 0 0] r2 rfl
  rw [← hV9] at p8
  clear hV hV9
  have P8 := block_cell p8
  have hw8 : Below w.heap.size w V8 := (hw2).trans (hb8.below (hw2).size (fun k h e => by omega))
  exact bodyPost_ret (v := .tuple #[.agg #[.int .u8 0, .int .u16 0, .bool false, .int .u8 0, .int .u8 0, .int .u32 0, .int .u32 0, .slice none 0 0, .slice none 0 0], .int .i64 4]) (by simp [results, Tryz.results39, go_sem, P8]) rfl (⟨hw8, .inl ⟨by rw [HGN.out, HF.out]; decide, by rw [HGN.out, HF.out]⟩⟩)
 ·have f0 := flt_some zo.length hf gn
  clear hf
  have F0 := hide f0
  clear f0
  have l2 : Later w1 (w1.alloc (.cells #[.int .u8 tos, .int .u16 id, .bool keep, .int .u8 ttl, .int .u8 47, .int .u32 src, .int .u32 dst, .slice a7 zo.length c7, .slice a8 ([] : List Int).length c8] 26)) := (Below.refl _ _).alloc (Nat.le_refl _) _
  have l02 := Later.trans hb1 l2
  have p2 := (l02.block w.heap.size (bl9 P0.out)).trans P0.out
  have m2 := (l02.block (w.heap.size + 1) (bl9 M0.out)).trans M0.out
  have r2 := (l02.block (w.heap.size + 1 + 1) (bl9 R0.out)).trans R0.out
  have hw2 := hb0.trans (l02.mono hb0.size)
  rw [show ([] : List Int).length = 0 from rfl] at *
  go_upto_region 7 with fail
  have hs2 : (w1.alloc (.cells #[.int .u8 tos, .int .u16 id, .bool keep, .int .u8 ttl, .int .u8 47, .int .u32 src, .int .u32 dst, .slice a7 zo.length c7, .slice a8 0 c8] 26)).heap.size = w1.heap.size + 1 := by simp
  generalize w1.alloc (.cells #[.int .u8 tos, .int .u16 id, .bool keep, .int .u8 ttl, .int .u8 47, .int .u32 src, .int .u32 dst, .slice a7 zo.length c7, .slice a8 0 c8] 26) = w2 at *
  have own3 := own_four w2 32 1 136 11
  have l3 : Later w2 (w2.alloc (.cells #[.int .u8 32, .int .u8 1, .int .u8 136, .int .u8 11] 5)) := (Below.refl _ _).alloc (Nat.le_refl _) _
  have hw3 := hw2.trans (l3.mono hw2.size)
  have p3 := (l3.block w.heap.size (bl9 p2)).trans p2
  have m3 := (l3.block (w.heap.size + 1) (bl9 m2)).trans m2
  have r3 := (l3.block (w.heap.size + 1 + 1) (bl9 r2)).trans r2
  clear l02 p2 m2 hw2
  rw [hs2] at own3
  have hsr := (bl9 r2)
  rw [hs2] at hsr
  have hz3 : w1.heap.size + 1 ≤ (w2.alloc (.cells #[.int .u8 32, .int .u8 1, .int .u8 136, .int .u8 11] 5)).heap.size := by have := l3.size; omega
  generalize w2.alloc (.cells #[.int .u8 32, .int .u8 1, .int .u8 136, .int .u8 11] 5) = w3 at *
  have hnb : 0 ≤ ((zd.length : Int) % 65536) ∧ ((zd.length : Int) % 65536) ≤ 65535 := by omega
  obtain ⟨y8, HY8⟩ : ∃ y8 : List Int, Hid (([32, 1, 136, 11] : List Int) ++ [((zd.length : Int) % 65536) / 256, ((zd.length : Int) % 65536) % 256] ++ [cl / 256, cl % 256] = y8) := ⟨_, rfl⟩
  go_cut [8] (fun v wx => wx.ownsRow (w1.heap.size + 1) 5 1 v y8.length (y8.map (Value.int .u8)) ∧ Below (w1.heap.size + 1) w3 wx)
  case first =>
   refine anyT_begin (R := But (fun b => w1.heap.size + 1 ≤ b)) 12 rfl (by kernel_rfl) ?_
   have hd : Later w3 w3.drew := Later.drew w3
   have ownd := row_below own3 hd (Nat.le_refl _)
   have bd : Below (w1.heap.size + 1) w3 w3.drew := hd.mono hz3
   have hz_Wd : w1.heap.size + 1 ≤ w3.drew.heap.size := hz3
   obtain ⟨i0, hi, hz0, hz1, hz2⟩ := info_parts info_u8
   generalize w3.drew = Wd at *
   have ham : ∀ v1, But (fun b => w1.heap.size + 1 ≤ b) Wd v1 → ∀ i, v1.cell? ⟨w.heap.size + 1, i, none⟩ = #[Value.int .u16 cl, .bool hs, .bool ha, .int .u32 sq, .int .u32 ak, .slice am zd.length cm][i]? := fun v1 h => block_cell ((((But.of hd).trans h).block (w.heap.size + 1) (bl9 m3) (by omega)).trans m3)
   refine tV (But.pre _) 0 rfl rfl ?_; apply Exists.intro; refine ⟨fun v1 hv1 => ?_, ?_⟩; (· (go_simp; rfl)); simp only [Act.put, sA, sB, sC]
   refine tV (But.pre _) 1 rfl rfl ?_; apply Exists.intro; refine ⟨fun v1 hv1 => ?_, ?_⟩; (· (go_simp; rfl)); simp only [Act.put, sA, sB, sC]
   refine tV (But.pre _) 2 rfl rfl ?_; apply Exists.intro; refine ⟨fun v1 hv1 => ?_, ?_⟩; (· (go_simp; rfl)); simp only [Act.put, sA, sB, sC]
   refine tV (But.pre _) 3 rfl rfl ?_; apply Exists.intro; refine ⟨fun v1 hv1 => ?_, ?_⟩; (· (go_simp; rfl)); simp only [Act.put, sA, sB, sC]
   have HW16 : Hid (IntKind.u16.wrap (zd.length : Int) = ((zd.length : Int) % 65536)) := by show _ = _; simp [IntKind.wrap, IntKind.bits, IntKind.signed]
   refine tV (But.pre _) 4 rfl rfl ⟨.int .u16 ((zd.length : Int) % 65536), fun v1 hv1 => by go_simp; exact HW16.out, ?_⟩
   simp only [Act.put, sA, sB, sC]
   refine tV (But.pre _) 7 rfl rfl ?_; apply Exists.intro; refine ⟨fun v1 hv1 => ?_, ?_⟩; (· (go_simp; rfl)); simp only [Act.put, sA, sB, sC]
   refine tV (But.pre _) 8 rfl rfl ?_; apply Exists.intro; refine ⟨fun v1 hv1 => ?_, ?_⟩; (· (go_simp; rfl)); simp only [Act.put, sA, sB, sC]
   refine anyT_one 5 rfl (by kernel_rfl) rfl ?_
   refine wp_enter 68 #[.int .u16 ((zd.length : Int) % 65536)] (by go_simp) ?_
   refine (two_any ((zd.length : Int) % 65536) hnb Wd).mono ?_
   rintro e w4 ⟨rfl, rfl⟩
   have lX1 : Later Wd (Wd.alloc (.cells #[.int .u8 (((zd.length : Int) % 65536) / 256), .int .u8 (((zd.length : Int) % 65536) % 256)] 5)) := (Below.refl _ _).alloc (Nat.le_refl _) _
   have RX1 := Rd.new2 (((zd.length : Int) % 65536) / 256) (((zd.length : Int) % 65536) % 256) 5 Wd
   have ownX1 := row_below ownd lX1 (Nat.le_refl _)
   have bX1 := bd.trans (lX1.mono hz_Wd)
   have hz_X1 : w1.heap.size + 1 ≤ (Wd.alloc (.cells #[.int .u8 (((zd.length : Int) % 65536) / 256), .int .u8 (((zd.length : Int) % 65536) % 256)] 5)).heap.size := Nat.le_trans hz_Wd lX1.size
   refine ⟨But.of lX1, ?_⟩
   simp only [Act.put, sA, sB, sC]
   generalize Wd.alloc (.cells #[.int .u8 (((zd.length : Int) % 65536) / 256), .int .u8 (((zd.length : Int) % 65536) % 256)] 5) = X1 at *
   refine anyT_one 6 rfl (by kernel_rfl) rfl ?_
   obtain ⟨vX2, X2, hrunX2, ownX2, hgrX2⟩ := run_app (P := Tryz.prog) X1 24 24 5 (w1.heap.size + 1) i0 Tryz.underlying24 hi hz0 hz1 hz2 _ _ ownX1 _ _ [((zd.length : Int) % 65536) / 256, ((zd.length : Int) % 65536) % 256] RX1 (by simp) hz_X1
   have bX2 := below_app bX1 ownX1 hgrX2 (Nat.le_refl _) hz_X1
   have btX2 : But (fun b => w1.heap.size + 1 ≤ b) X1 X2 := but_app ownX1 hgrX2
   have hz_X2 : w1.heap.size + 1 ≤ X2.heap.size := Nat.le_trans hz_X1 btX2.size
   clear hgrX2
   refine wp_app (.tmp 38) (.tmp 43) 24 rfl _ _ rfl rfl _ X2 hrunX2 ⟨btX2, ?_⟩
   simp only [Act.put, sA, sB, sC]
   refine anyT_one 9 rfl (by kernel_rfl) rfl ?_
   refine wp_enter 68 #[.int .u16 cl] (by go_simp) ?_
   refine (two_any cl hcl X2).mono ?_
   rintro e w4 ⟨rfl, rfl⟩
   have lX3 : Later X2 (X2.alloc (.cells #[.int .u8 (cl / 256), .int .u8 (cl % 256)] 5)) := (Below.refl _ _).alloc (Nat.le_refl _) _
   have RX3 := Rd.new2 (cl / 256) (cl % 256) 5 X2
   have ownX3 := row_below ownX2 lX3 (Nat.le_refl _)
   have bX3 := bX2.trans (lX3.mono hz_X2)
   have hz_X3 : w1.heap.size + 1 ≤ (X2.alloc (.cells #[.int .u8 (cl / 256), .int .u8 (cl % 256)] 5)).heap.size := Nat.le_trans hz_X2 lX3.size
   refine ⟨But.of lX3, ?_⟩
   simp only [Act.put, sA, sB, sC]
   generalize X2.alloc (.cells #[.int .u8 (cl / 256), .int .u8 (cl % 256)] 5) = X3 at *
   refine anyT_one 10 rfl (by kernel_rfl) rfl ?_
   obtain ⟨vX4, X4, hrunX4, ownX4, hgrX4⟩ := run_app (P := Tryz.prog) X3 24 24 5 (w1.heap.size + 1) i0 Tryz.underlying24 hi hz0 hz1 hz2 _ _ ownX3 _ _ [cl / 256, cl % 256] RX3 (by simp) hz_X3
   have bX4 := below_app bX3 ownX3 hgrX4 (Nat.le_refl _) hz_X3
   have btX4 : But (fun b => w1.heap.size + 1 ≤ b) X3 X4 := but_app ownX3 hgrX4
   have hz_X4 : w1.heap.size + 1 ≤ X4.heap.size := Nat.le_trans hz_X3 btX4.size
   clear hgrX4
   refine wp_app (.tmp 44) (.tmp 47) 24 rfl _ _ rfl rfl _ X4 hrunX4 ⟨btX4, ?_⟩
   simp only [Act.put, sA, sB, sC]
   refine anyT_one 11 rfl (by kernel_rfl) rfl ?_
   unfold Oper.wp
   go_simp
   refine ⟨But.refl _ _, ?_⟩
   refine anyT_done (by kernel_rfl) ?_
   rw [HY8.out] at ownX4
   go_wp2_with fail
   go_meet
   case rel => exact ⟨ownX4, bX4⟩
  case rest =>
   obtain ⟨own8, bc8⟩ := hcut
   obtain ⟨i0, hi, hz0, hz1, hz2⟩ := info_parts info_u8
   have hy8 : Hid (y8.length = 8) := by show _ = _; rw [← HY8.out]; rfl
   obtain ⟨g8, cp8, rfl, hgb8, c8, f8, ownS8⟩ := row_set own8 0 (by have := hy8.out; omega) 48
   have i8 : (0 : Int) < y8.length := by have := hy8.out; omega
   have i8' : 0 < y8.length := by have := hy8.out; omega
   have m8 := (bc8.block (w.heap.size + 1) (by omega)).trans m3
   have M8 := block_cell m8
   obtain ⟨y9, HY9⟩ : ∃ y : List Int, Hid ((if hs then y8.set 0 48 ++ [sq / 16777216, sq / 65536 % 256, sq / 256 % 256, sq % 256] else y8) = y) := ⟨_, rfl⟩
   have hy9 : Hid (y9.length = 8 + 0 + (if hs then 4 else 0)) := by show _ = _; rw [← HY9.out]; have := hy8.out; cases hs <;> simp <;> omega
   go_upto_if 50 with fail
   go_cut [8] (fun v wx => wx.ownsRow (w1.heap.size + 1) 5 1 v y9.length (y9.map (Value.int .u8)) ∧ Below (w1.heap.size + 1) w3 wx)
   case first =>
    cases hs
    ·have hy : y9 = y8 := HY9.out.symm
     go_wp2_with fail
     go_meet
     case rel => exact ⟨by rw [hy]; exact own8, bc8⟩
    ·have hy : y9 = y8.set 0 48 ++ [sq / 16777216, sq / 65536 % 256, sq / 256 % 256, sq % 256] := HY9.out.symm
     have b5 : Below (w1.heap.size + 1) w3 (wc.setCell ⟨g8, 0, none⟩ (.int .u8 48)) := bc8.setCell (p := ⟨g8, 0, none⟩) hgb8 _
     have m5 := (b5.block (w.heap.size + 1) (by omega)).trans m3
     have M5 := block_cell m5
     go_wp2_with fail
     have hz5 : w1.heap.size + 1 ≤ (wc.setCell ⟨g8, 0, none⟩ (.int .u8 48)).heap.size := Nat.le_trans hz3 b5.size
     generalize wc.setCell ⟨g8, 0, none⟩ (.int .u8 48) = w5 at *
     refine (four_any sq hsq w5).mono ?_
     rintro e w6 ⟨rfl, rfl⟩
     have l6 : Later w5 (w5.alloc (.cells #[.int .u8 (sq / 16777216), .int .u8 (sq / 65536 % 256), .int .u8 (sq / 256 % 256), .int .u8 (sq % 256)] 5)) := (Below.refl _ _).alloc (Nat.le_refl _) _
     have R6 := Rd.new4 (sq / 16777216) (sq / 65536 % 256) (sq / 256 % 256) (sq % 256) 5 w5
     have own6 := row_below ownS8 l6 (Nat.le_refl _)
     have b6 := b5.trans (l6.mono hz5)
     have hz6 := Nat.le_trans hz5 l6.size
     rw [List.length_set] at own6
     have own6' : (w5.alloc (.cells #[.int .u8 (sq / 16777216), .int .u8 (sq / 65536 % 256), .int .u8 (sq / 256 % 256), .int .u8 (sq % 256)] 5)).ownsRow (w1.heap.size + 1) 5 1 (.slice (some ⟨g8, 0, none⟩) y8.length cp8) (y8.set 0 48).length ((y8.set 0 48).map (Value.int .u8)) := by rw [List.length_set]; exact own6
     clear M5 M8 c8 f8
     go_wp2_with (at_builtin; refine wpList_app _ rfl (.tmp 53) (.tmp 56) 24 rfl (w1.heap.size + 1) 5 i0 Tryz.underlying24 hi hz0 hz1 hz2 _ _ rfl own6' _ _ [sq / 16777216, sq / 65536 % 256, sq / 256 % 256, sq % 256] rfl R6 (by have := hy8.out; simp; omega) hz6 ?_; intro v7 w7 own7 hg7; have b7 := below_app b6 own6' hg7 (Nat.le_refl _) hz6; clear hg7)
     go_meet
     case rel => exact ⟨by rw [hy]; exact own7, b7⟩
   case rest =>
    obtain ⟨own8, bc8⟩ := hcut
    obtain ⟨g9, cp9, rfl, hgb9, c9, f9, ownS9⟩ := row_set own8 1 (by have := hy9.out; omega) 129
    have i9 : (1 : Int) < y9.length := by have := hy9.out; omega
    have i9' : 1 < y9.length := by have := hy9.out; omega
    have m9 := (bc8.block (w.heap.size + 1) (by omega)).trans m3
    have M9 := block_cell m9
    obtain ⟨y10, HY10⟩ : ∃ y : List Int, Hid ((if ha then y9.set 1 129 ++ [ak / 16777216, ak / 65536 % 256, ak / 256 % 256, ak % 256] else y9) = y) := ⟨_, rfl⟩
    have hy10 : Hid (y10.length = 8 + (if hs then 4 else 0) + (if ha then 4 else 0)) := by show _ = _; rw [← HY10.out]; have := hy9.out; cases ha <;> simp <;> omega
    go_upto_if 59 with fail
    go_cut [8] (fun v wx => wx.ownsRow (w1.heap.size + 1) 5 1 v y10.length (y10.map (Value.int .u8)) ∧ Below (w1.heap.size + 1) w3 wx)
    case first =>
     cases ha
     ·have hy : y10 = y9 := HY10.out.symm
      go_wp2_with fail
      go_meet
      case rel => exact ⟨by rw [hy]; exact own8, bc8⟩
     ·have hy : y10 = y9.set 1 129 ++ [ak / 16777216, ak / 65536 % 256, ak / 256 % 256, ak % 256] := HY10.out.symm
      have b5 : Below (w1.heap.size + 1) w3 (wc.setCell ⟨g9, 1, none⟩ (.int .u8 129)) := bc8.setCell (p := ⟨g9, 1, none⟩) hgb9 _
      have m5 := (b5.block (w.heap.size + 1) (by omega)).trans m3
      have M5 := block_cell m5
      go_wp2_with fail
      have hz5 : w1.heap.size + 1 ≤ (wc.setCell ⟨g9, 1, none⟩ (.int .u8 129)).heap.size := Nat.le_trans hz3 b5.size
      generalize wc.setCell ⟨g9, 1, none⟩ (.int .u8 129) = w5 at *
      refine (four_any ak hak w5).mono ?_
      rintro e w6 ⟨rfl, rfl⟩
      have l6 : Later w5 (w5.alloc (.cells #[.int .u8 (ak / 16777216), .int .u8 (ak / 65536 % 256), .int .u8 (ak / 256 % 256), .int .u8 (ak % 256)] 5)) := (Below.refl _ _).alloc (Nat.le_refl _) _
      have R6 := Rd.new4 (ak / 16777216) (ak / 65536 % 256) (ak / 256 % 256) (ak % 256) 5 w5
      have own6 := row_below ownS9 l6 (Nat.le_refl _)
      have b6 := b5.trans (l6.mono hz5)
      have hz6 := Nat.le_trans hz5 l6.size
      rw [List.length_set] at own6
      have own6' : (w5.alloc (.cells #[.int .u8 (ak / 16777216), .int .u8 (ak / 65536 % 256), .int .u8 (ak / 256 % 256), .int .u8 (ak % 256)] 5)).ownsRow (w1.heap.size + 1) 5 1 (.slice (some ⟨g9, 0, none⟩) y9.length cp9) (y9.set 1 129).length ((y9.set 1 129).map (Value.int .u8)) := by rw [List.length_set]; exact own6
      clear M5 M9 c9 f9
      go_wp2_with (at_builtin; refine wpList_app _ rfl (.tmp 62) (.tmp 65) 24 rfl (w1.heap.size + 1) 5 i0 Tryz.underlying24 hi hz0 hz1 hz2 _ _ rfl own6' _ _ [ak / 16777216, ak / 65536 % 256, ak / 256 % 256, ak % 256] rfl R6 (by have := hy9.out; simp; split at this <;> omega) hz6 ?_; intro v7 w7 own7 hg7; have b7 := below_app b6 own6' hg7 (Nat.le_refl _) hz6; clear hg7)
      go_meet
      case rel => exact ⟨by rw [hy]; exact own7, b7⟩
    case rest =>
     obtain ⟨own8, bc8⟩ := hcut
     have hO8 := Ow.of_row own8
     obtain ⟨a10, c10, rfl, _, _⟩ := hO8.slice
     have hgn : Hid (gn = y10.length + zd.length) := by
      show _ = _
      rw [← HGN.out, hy10.out]
      unfold grn
      omega
     have hgr : Hid (y10 ++ zd = grb cl hs ha sq ak zd) := by
      show _ = _
      rw [← HY10.out, ← HY9.out, ← HY8.out]
      cases hs <;> cases ha <;> simp [grb, num4] <;> omega
     have hyb : y10.length ≤ 16 := by have := hy10.out; split at this <;> split at this <;> omega
     have p10 := (bc8.block w.heap.size (by omega)).trans p3
     have m10 := (bc8.block (w.heap.size + 1) (by omega)).trans m3
     have r10 := (bc8.block (w.heap.size + 1 + 1) (by omega)).trans r3
     have hw10 := hw3.trans (bc8.mono (by omega))
     have P10 := block_cell p10
     have M10 := block_cell m10
     by_cases c3 : 65535 < 20 + zo.length + gn
     ·have t3 : (65535 : Int) < 20 + zo.length + y10.length + zd.length := by have := hgn.out; omega
      have HF : Hid (flt zo.length gn = 8) := by show _ = _; rw [F0.out, if_pos c3]
      have RR := block_cell r10
      have FF := block_frozen r10
      clear c3
      go_wp2_with fail
      generalize hV : ((((((((wc.setCell ⟨w.heap.size + 1 + 1, 0, none⟩ _).setCell ⟨w.heap.size + 1 + 1, 1, none⟩ _).setCell ⟨w.heap.size + 1 + 1, 2, none⟩ _).setCell ⟨w.heap.size + 1 + 1, 3, none⟩ _).setCell ⟨w.heap.size + 1 + 1, 4, none⟩ _).setCell ⟨w.heap.size + 1 + 1, 5, none⟩ _).setCell ⟨w.heap.size + 1 + 1, 6, none⟩ _).setCell ⟨w.heap.size + 1 + 1, 7, none⟩ _).setCell ⟨w.heap.size + 1 + 1, 8, none⟩ _ = V8
      have hV9 : V8 = putRow wc (w.heap.size + 1 + 1) 0 [Value.int .u8 0, .int .u16 0, .bool false, .int .u8 0, .int .u8 0, .int .u32 0, .int .u32 0, .slice none 0 0, .slice none 0 0] := hV.symm
      have hb8 : But (fun b => b = w.heap.size + 1 + 1) wc V8 := by rw [hV9]; exact putRow_but (E := fun b => b = w.heap.size + 1 + 1) (n := w.heap.size + 1 + 1) rfl _ _ _ _ (But.refl _ _)
      have p8 := putRow_all [Value.int .u8 0, .int .u16 0, .bool false, .int .u8 0, .int .u8 0, .int .u32 0, .int .u32 0, .slice none 0 0, .slice none 0 0] r10 rfl
      rw [← hV9] at p8
      clear hV hV9
      have P8 := block_cell p8
      have hw8 : Below w.heap.size w V8 := (hw10).trans (hb8.below (hw10).size (fun k h e => by omega))
      exact bodyPost_ret (v := .tuple #[.agg #[.int .u8 0, .int .u16 0, .bool false, .int .u8 0, .int .u8 0, .int .u32 0, .int .u32 0, .slice none 0 0, .slice none 0 0], .int .i64 8]) (by simp [results, Tryz.results39, go_sem, P8]) rfl (⟨hw8, .inl ⟨by rw [HGN.out, HF.out]; decide, by rw [HGN.out, HF.out]⟩⟩)
     ·have t3 : ¬ (65535 : Int) < 20 + zo.length + y10.length + zd.length := by have := hgn.out; omega
      have HF : Hid (flt zo.length gn = 0) := by show _ = _; rw [F0.out, if_neg c3]
      clear c3
      go_upto_region 16 with fail
      clear P10 M10
      refine anyT_begin (R := But (fun b => b = w.heap.size + 1 + 1 ∨ w1.heap.size + 1 ≤ b)) 10 rfl (by kernel_rfl) ?_
      have hd : Later wc wc.drew := Later.drew wc
      have p11 := (hd.block w.heap.size (bl9 p10)).trans p10
      have m11 := (hd.block (w.heap.size + 1) (bl9 m10)).trans m10
      have r11 := (hd.block (w.heap.size + 1 + 1) (bl9 r10)).trans r10
      have hw11 := hw10.trans (hd.mono hw10.size)
      have own11 := row_below own8 hd (Nat.le_refl _)
      have hz11 : w1.heap.size + 1 ≤ wc.drew.heap.size := Nat.le_trans hz3 (bc8.size)
      generalize wc.drew = Wd at *
      have hap : ∀ v1, But (fun b => b = w.heap.size + 1 + 1 ∨ w1.heap.size + 1 ≤ b) Wd v1 → ∀ i, v1.cell? ⟨w.heap.size, i, none⟩ = #[Value.int .u8 tos, .int .u16 id, .bool keep, .int .u8 ttl, .int .u8 proto, .int .u32 src, .int .u32 dst, .slice ao zo.length co, .slice ad ld cd][i]? := fun v1 h => block_cell ((h.block w.heap.size (bl9 p11) (by omega)).trans p11)
      have ham : ∀ v1, But (fun b => b = w.heap.size + 1 + 1 ∨ w1.heap.size + 1 ≤ b) Wd v1 → ∀ i, v1.cell? ⟨w.heap.size + 1, i, none⟩ = #[Value.int .u16 cl, .bool hs, .bool ha, .int .u32 sq, .int .u32 ak, .slice am zd.length cm][i]? := fun v1 h => block_cell ((h.block (w.heap.size + 1) (bl9 m11) (by omega)).trans m11)
      refine tV (But.pre _) 0 rfl rfl ?_; apply Exists.intro; refine ⟨fun v1 hv1 => ?_, ?_⟩; (· (go_simp; rfl)); simp only [Act.put, sA, sB, sC]
      refine tV (But.pre _) 1 rfl rfl ?_; apply Exists.intro; refine ⟨fun v1 hv1 => ?_, ?_⟩; (· (go_simp; rfl)); simp only [Act.put, sA, sB, sC]
      refine tV (But.pre _) 2 rfl rfl ?_; apply Exists.intro; refine ⟨fun v1 hv1 => ?_, ?_⟩; (· (go_simp; rfl)); simp only [Act.put, sA, sB, sC]
      refine tV (But.pre _) 3 rfl rfl ?_; apply Exists.intro; refine ⟨fun v1 hv1 => ?_, ?_⟩; (· (go_simp; rfl)); simp only [Act.put, sA, sB, sC]
      refine anyT_one 4 rfl (by kernel_rfl) rfl ?_
      obtain ⟨v12, W12, hrun12, own12, hgr12⟩ := run_app (P := Tryz.prog) Wd 24 24 5 (w1.heap.size + 1) i0 Tryz.underlying24 hi hz0 hz1 hz2 _ _ own11 w.heap.size _ zd (hIm.below hw11) (by omega) hz11
      have b12 : Below (w1.heap.size + 1) Wd W12 := below_app (Below.refl _ _) own11 hgr12 (Nat.le_refl _) hz11
      have bt12 := but_app own11 hgr12
      clear hgr12
      refine wp_app (.tmp 81) (.tmp 83) 24 rfl _ _ rfl rfl _ W12 hrun12 ⟨⟨bt12.os, bt12.tape, bt12.output, bt12.size, fun i hi he => bt12.block i hi (fun h => he (.inr h))⟩, ?_⟩
      simp only [Act.put, sA, sB, sC]
      have hO12 := Ow.of_row own12
      clear own12
      have hl12 : Hid ((y10 ++ zd).length = gn) := by show _ = _; rw [List.length_append, hgn.out]
      obtain ⟨a12, c12, rfl, _, _⟩ := hO12.slice
      have hw12 := hw11.trans (b12.mono (by omega))
      have r12 := (b12.block (w.heap.size + 1 + 1) (by omega)).trans r11
      refine anyT_one 5 rfl (by kernel_rfl) rfl ?_
      refine wp_enter 33 #[.agg #[.int .u8 tos, .int .u16 id, .bool keep, .int .u8 ttl, .int .u8 proto, .int .u32 src, .int .u32 dst, .slice ao zo.length co, .slice ad ld cd], .int .u8 47, .slice a12 (y10 ++ zd).length c12] (by go_simp) ?_
      refine (rwith_any tos id ttl proto src dst 47 keep _ _ ad ld cd zo (y10 ++ zd) W12 ((hIo.below hw12).mono hw12.size) hO12.rd h1 (by simp; omega)).mono ?_
      rw [hl12.out, HF.out]
      rintro e W8 ⟨hb8, ⟨hx, _⟩ | ⟨_, a9, c9, ad9, cd9, rfl, hO9, hD9⟩⟩
      case inl => exact absurd rfl hx
      have l8 : Later W12 W8 := hb8
      refine ⟨But.of l8, ?_⟩
      simp only [Act.put, sA, sB, sC]
      refine tV (But.pre _) 6 rfl rfl ?_; apply Exists.intro; refine ⟨fun v1 hv1 => ?_, ?_⟩; (· (go_simp; rfl)); simp only [Act.put, sA, sB, sC]
      refine tV (But.pre _) 7 rfl rfl ?_; apply Exists.intro; refine ⟨fun v1 hv1 => ?_, ?_⟩; (· (go_simp; rfl)); simp only [Act.put, sA, sB, sC]
      refine anyT_one 8 rfl (by kernel_rfl) rfl ?_
      have r8 := (l8.block (w.heap.size + 1 + 1) (bl9 r12)).trans r12
      have hw8' := hw12.trans (l8.mono hw12.size)
      have k8 := block_cell r8
      have f8 : ∀ j, W8.frozen? ⟨w.heap.size + 1 + 1, j, none⟩ = false := block_frozen r8
      unfold Oper.wp
      go_simp
      generalize hV7 : ((((((((W8.setCell ⟨w.heap.size + 1 + 1, 0, none⟩ _).setCell ⟨w.heap.size + 1 + 1, 1, none⟩ _).setCell ⟨w.heap.size + 1 + 1, 2, none⟩ _).setCell ⟨w.heap.size + 1 + 1, 3, none⟩ _).setCell ⟨w.heap.size + 1 + 1, 4, none⟩ _).setCell ⟨w.heap.size + 1 + 1, 5, none⟩ _).setCell ⟨w.heap.size + 1 + 1, 6, none⟩ _).setCell ⟨w.heap.size + 1 + 1, 7, none⟩ _).setCell ⟨w.heap.size + 1 + 1, 8, none⟩ _ = V7
      have hV8 : V7 = putRow W8 (w.heap.size + 1 + 1) 0 [.int .u8 tos, .int .u16 id, .bool keep, .int .u8 ttl, .int .u8 47, .int .u32 src, .int .u32 dst, .slice a9 zo.length c9, .slice ad9 gn cd9] := hV7.symm
      have hbV : But (fun b => b = w.heap.size + 1 + 1) W8 V7 := by rw [hV8]; exact putRow_rb _ _
      have pV := putRow_all [Value.int .u8 tos, .int .u16 id, .bool keep, .int .u8 ttl, .int .u8 47, .int .u32 src, .int .u32 dst, .slice a9 zo.length c9, .slice ad9 gn cd9] r8 rfl
      rw [← hV8] at pV
      clear hV7 hV8 k8 f8
      refine ⟨⟨hbV.os, hbV.tape, hbV.output, hbV.size, fun i hi he => hbV.block i hi (fun h => he (.inl h))⟩, ?_⟩
      refine anyT_one 9 rfl (by kernel_rfl) rfl ?_
      unfold Oper.wp
      go_simp
      refine ⟨But.refl _ _, ?_⟩
      refine anyT_done (by kernel_rfl) ?_
      have PV := block_cell pV
      have hwV : Below w.heap.size w V7 := hw8'.trans (hbV.below hw8'.size (fun k hk e => by omega))
      go_wp2_with fail
      exact bodyPost_ret (v := .tuple #[.agg #[.int .u8 tos, .int .u16 id, .bool keep, .int .u8 ttl, .int .u8 47, .int .u32 src, .int .u32 dst, .slice a9 zo.length c9, .slice ad9 gn cd9], .int .i64 0]) (by simp [results, Tryz.results39, go_sem, PV]) rfl ⟨hwV, .inr ⟨by rw [HGN.out]; exact HF.out, a9, c9, ad9, cd9, by rw [HGN.out], (hO9.apart r8 (by decide) hbV).mono hw12.size, by rw [HGN.out, ← hgr.out]; exact (hD9.apart r8 (by decide) hbV).mono hw12.size⟩⟩
end Go.Proofs.YtghpakfjpdifaaaGreatDoor

/- The document's Rewrite. -/
namespace Go.Proofs.YtghpakfjpdifaaaGreatDoor
open Go.RowKit Go.Shelf
set_option maxRecDepth 100000
set_option linter.unusedVariables false
set_option linter.unusedSimpArgs false

theorem OwO.asideS {base mb : Nat} {A B : World} {v : Value} {os : List Opt} {cur : Array Value} {t : TypeId} (h : OwO base A v os) (hm : A.heap[mb]? = some (.cells cur t (0, 0))) (ht : t ≠ 115 ∧ t ≠ 5) (hb : But (fun b => b = mb) A B) : OwO base B v os := by
 obtain ⟨ss, h1, ⟨q1, q2⟩, h3⟩ := h
 refine ⟨ss, h1, ⟨q1, ?_⟩, fun j hj => Ow.aside (h3 j hj) hm ht.2 hb⟩
 rcases q2 with q2 | ⟨g, cap, cu, e, hg, hh, r⟩
 ·exact .inl q2
 ·refine .inr ⟨g, cap, cu, e, hg, (hb.block g (bl9 hh) (fun e => ?_)).trans hh, r⟩
  subst e
  rw [hm] at hh
  cases hh
  exact ht.1 rfl
theorem flt_mono {lo n m : Nat} (h : flt lo n = 0) (hm : m ≤ n) : flt lo m = 0 := by
 obtain ⟨h1, h2, h3⟩ := flt_fit2 h
 unfold flt
 rw [if_neg (by omega), if_neg (by omega)]

set_option maxHeartbeats 16000000 in
theorem rrw_tcp (tos id ttl src dst : Int) (keep : Bool) (so sd : Value) (zo zd : List Int) (s d a b : Int) (os : List Opt) (w : World) (hBo : Mt.By zo) (hBd : Mt.By zd) (hIo : Rd w.heap.size w so zo) (hId : Rd w.heap.size w sd zd) (hfl : flt zo.length zd.length = 0)
  (hsr : 0 ≤ src ∧ src ≤ 4294967295) (hds : 0 ≤ dst ∧ dst ≤ 4294967295) (hs : 0 ≤ s ∧ s ≤ 4294967295) (hd : 0 ≤ d ∧ d ≤ 4294967295) (ha : 0 ≤ a ∧ a ≤ 65535) (hb : 0 ≤ b ∧ b ≤ 65535) (ho : ofe 6 src dst zd = 0) (hos : opts (hop zd) = some os) :
  Calls Tryz.prog 14 #[.agg #[.int .u8 tos, .int .u16 id, .bool keep, .int .u8 ttl, .int .u8 6, .int .u32 src, .int .u32 dst, so, sd], .agg #[.int .u8 6, .int .u32 s, .int .u32 d, .int .u16 a, .int .u16 b]] w fun e w' => Later w w' ∧ ∃ a7 c7 a8 n8 c8, e = .returned (.tuple #[.agg #[.int .u8 tos, .int .u16 id, .bool keep, .int .u8 ttl, .int .u8 6, .int .u32 s, .int .u32 d, .slice a7 zo.length c7, .slice a8 n8 c8], .int .i64 0]) ∧ Ow w.heap.size w' (.slice a7 zo.length c7) zo ∧ Ow w.heap.size w' (.slice a8 n8 c8) (rwR 6 s d a b os zd) := by
 obtain ⟨hf1, hf2, hf3⟩ := flt_fit2 hfl
 have HFL := hide hfl
 have HF3 := hide hf3
 have HF1 := hide hf1
 obtain ⟨ao, co, rfl, _, _⟩ := hIo.slice
 obtain ⟨ad, cd, rfl, _, _⟩ := hId.slice
 have hb0 : Below w.heap.size w (((w.alloc (.cells #[.int .u8 tos, .int .u16 id, .bool keep, .int .u8 ttl, .int .u8 6, .int .u32 src, .int .u32 dst, .slice ao zo.length co, .slice ad zd.length cd] 26)).alloc (.cells #[.int .u8 6, .int .u32 s, .int .u32 d, .int .u16 a, .int .u16 b] 29)).alloc (.cells zpk.toArray 26)) := (((Below.refl _ _).alloc (Nat.le_refl _) _).alloc (by simp) _).alloc (by simp <;> omega) _
 have p0 : (((w.alloc (.cells #[.int .u8 tos, .int .u16 id, .bool keep, .int .u8 ttl, .int .u8 6, .int .u32 src, .int .u32 dst, .slice ao zo.length co, .slice ad zd.length cd] 26)).alloc (.cells #[.int .u8 6, .int .u32 s, .int .u32 d, .int .u16 a, .int .u16 b] 29)).alloc (.cells zpk.toArray 26)).heap[w.heap.size]? = some (.cells #[.int .u8 tos, .int .u16 id, .bool keep, .int .u8 ttl, .int .u8 6, .int .u32 src, .int .u32 dst, .slice ao zo.length co, .slice ad zd.length cd] 26) := (Below.heap_alloc _ _ _ (by simp <;> omega)).trans ((Below.heap_alloc _ _ _ (by simp)).trans (heap_alloc_new w _))
 have t0 : (((w.alloc (.cells #[.int .u8 tos, .int .u16 id, .bool keep, .int .u8 ttl, .int .u8 6, .int .u32 src, .int .u32 dst, .slice ao zo.length co, .slice ad zd.length cd] 26)).alloc (.cells #[.int .u8 6, .int .u32 s, .int .u32 d, .int .u16 a, .int .u16 b] 29)).alloc (.cells zpk.toArray 26)).heap[w.heap.size + 1]? = some (.cells #[.int .u8 6, .int .u32 s, .int .u32 d, .int .u16 a, .int .u16 b] 29) := by
  have := heap_alloc_new (w.alloc (.cells #[.int .u8 tos, .int .u16 id, .bool keep, .int .u8 ttl, .int .u8 6, .int .u32 src, .int .u32 dst, .slice ao zo.length co, .slice ad zd.length cd] 26)) (.cells #[.int .u8 6, .int .u32 s, .int .u32 d, .int .u16 a, .int .u16 b] 29)
  rw [World.size_alloc] at this
  exact (Below.heap_alloc _ _ _ (by simp)).trans this
 have r0 : (((w.alloc (.cells #[.int .u8 tos, .int .u16 id, .bool keep, .int .u8 ttl, .int .u8 6, .int .u32 src, .int .u32 dst, .slice ao zo.length co, .slice ad zd.length cd] 26)).alloc (.cells #[.int .u8 6, .int .u32 s, .int .u32 d, .int .u16 a, .int .u16 b] 29)).alloc (.cells zpk.toArray 26)).heap[w.heap.size + 1 + 1]? = some (.cells zpk.toArray 26) := by
  have := heap_alloc_new ((w.alloc (.cells #[.int .u8 tos, .int .u16 id, .bool keep, .int .u8 ttl, .int .u8 6, .int .u32 src, .int .u32 dst, .slice ao zo.length co, .slice ad zd.length cd] 26)).alloc (.cells #[.int .u8 6, .int .u32 s, .int .u32 d, .int .u16 a, .int .u16 b] 29)) (.cells zpk.toArray 26)
  simpa only [World.size_alloc] using this
 have P0 := hide p0
 have T0 := hide t0
 have R0 := hide r0
 clear p0 t0 r0 hf1 hf2 hf3 hfl
 go_enter Tryz.func14, Tryz.ntmps14
 go_upto_region 1 with fail
 generalize ((w.alloc _).alloc _).alloc _ = W0 at *
 have L0 : Later w W0 := hb0
 have kP := block_cell P0.out
 have kT := block_cell T0.out
 go_upto_region 3 with fail
 go_wp2_with fail
 refine (rof_any tos id ttl 6 src dst keep _ _ zd W0 hBd (hId.later L0) (by have := HF3.out; omega) hsr hds).mono ?_
 rintro e w1 ⟨hb1, rfl⟩
 rw [ho, otv_ok]
 have hq1 : ∃ x y, ofa 6 zd = x ∧ ofb 6 zd = y := ⟨_, _, rfl, rfl⟩
 obtain ⟨x1, y1, hx1, hy1⟩ := hq1
 rw [hx1, hy1]
 clear hx1 hy1 kP kT
 have l1 : Later W0 w1 := hb1
 have la1 := later_alloc' w1 (.cells #[.int .u8 6, .int .u32 src, .int .u32 dst, .int .u16 x1, .int .u16 y1] 29)
 have m1 := l1.trans la1
 have P2 := hide (later_keep m1 P0.out)
 have T2 := hide (later_keep m1 T0.out)
 have R2 := hide (later_keep m1 R0.out)
 have L2 := L0.trans m1
 clear P0 T0 R0 l1 hb1 la1 m1 L0 hb0
 go_upto_region 6 with fail
 generalize w1.alloc _ = w2 at *
 have kP := block_cell P2.out
 have la3 := later_alloc' w2 (.cells #[.int .u8 tos, .int .u16 id, .bool keep, .int .u8 ttl, .int .u8 6, .int .u32 src, .int .u32 dst, .slice ao zo.length co, .slice ad zd.length cd] 26)
 have Q3 := hide (heap_alloc_new w2 (.cells #[.int .u8 tos, .int .u16 id, .bool keep, .int .u8 ttl, .int .u8 6, .int .u32 src, .int .u32 dst, .slice ao zo.length co, .slice ad zd.length cd] 26))
 have P3 := hide (later_keep la3 P2.out)
 have T3 := hide (later_keep la3 T2.out)
 have R3 := hide (later_keep la3 R2.out)
 have L3 := L2.trans la3
 have hgr : w.heap.size + 1 + 1 < w2.heap.size := (bl9 R2.out)
 clear P2 T2 R2 la3 L2
 go_upto_region 7 with fail
 clear kP
 generalize w2.alloc _ = w3 at *
 generalize w2.heap.size = gq at *
 refine anyT_begin (R := But (fun q => q = gq)) 8 rfl (by kernel_rfl) ?_
 have hdr : Later w3 w3.drew := Later.drew w3
 have gd := later_keep hdr Q3.out
 have td := later_keep hdr T3.out
 generalize w3.drew = wd at *
 have qT : ∀ v1, But (fun q => q = gq) wd v1 → ∀ j, v1.cell? ⟨w.heap.size + 1, j, none⟩ = (#[.int .u8 6, .int .u32 s, .int .u32 d, .int .u16 a, .int .u16 b] : Array Value)[j]? := fun v1 h => block_cell ((h.block (w.heap.size + 1) (bl9 td) (by omega)).trans td)
 refine tV (But.pre _) 0 rfl rfl ?_; apply Exists.intro; refine ⟨fun v1 hv1 => ?_, ?_⟩; (· (go_simp; rfl)); simp only [Act.put, sA, sB, sC]
 refine tV (But.pre _) 1 rfl rfl ?_; apply Exists.intro; refine ⟨fun v1 hv1 => ?_, ?_⟩; (· (go_simp; rfl)); simp only [Act.put, sA, sB, sC]
 refine tV (But.pre _) 2 rfl rfl ?_; apply Exists.intro; refine ⟨fun v1 hv1 => ?_, ?_⟩; (· (go_simp; rfl)); simp only [Act.put, sA, sB, sC]
 refine tV (But.pre _) 3 rfl rfl ?_; apply Exists.intro; refine ⟨fun v1 hv1 => ?_, ?_⟩; (· (go_simp; rfl)); simp only [Act.put, sA, sB, sC]
 clear qT td
 refine tV (But.pre _) 4 rfl rfl ?_; apply Exists.intro; refine ⟨fun v1 hv1 => ?_, ?_⟩; (· (go_simp; rfl)); simp only [Act.put, sA, sB, sC]
 have kx := block_cell gd
 have fx := block_frozen gd
 refine anyT_one 5 rfl (by kernel_rfl) rfl ?_
 unfold Oper.wp
 go_simp
 generalize hV : wd.setCell ⟨gq, 5, none⟩ _ = V7
 have gV := heap_set1 gd 5 (.int .u32 s)
 rw [hV] at gV
 have hb7 : But (fun q => q = gq) wd V7 := by rw [← hV]; exact But.setCell (E := fun q => q = gq) (But.refl _ _) (p := ⟨gq, 5, none⟩) rfl _
 refine ⟨hb7, ?_⟩
 clear hV kx fx
 simp only [List.setIfInBounds_toArray, List.set_cons_zero, List.set_cons_succ] at gV
 refine tV (But.pre _) 6 rfl rfl ?_; apply Exists.intro; refine ⟨fun v1 hv1 => ?_, ?_⟩; (· (go_simp; rfl)); simp only [Act.put, sA, sB, sC]
 have kx := block_cell gV
 have fx := block_frozen gV
 refine anyT_one 7 rfl (by kernel_rfl) rfl ?_
 unfold Oper.wp
 go_simp
 generalize hV : V7.setCell ⟨gq, 6, none⟩ _ = w4
 have gW := heap_set1 gV 6 (.int .u32 d)
 rw [hV] at gW
 have hb8 : But (fun q => q = gq) V7 w4 := by rw [← hV]; exact But.setCell (E := fun q => q = gq) (But.refl _ _) (p := ⟨gq, 6, none⟩) rfl _
 refine ⟨hb8, ?_⟩
 clear hV kx fx gV gd
 simp only [List.setIfInBounds_toArray, List.set_cons_zero, List.set_cons_succ] at gW
 refine anyT_done (by kernel_rfl) ?_
 have hbN : But (fun q => q = gq) w3 w4 := (But.of hdr).trans (hb7.trans hb8)
 clear hb7 hb8 hdr
 have Q4 := hide gW
 have P4 := hide ((hbN.block w.heap.size (bl9 P3.out) (by omega)).trans P3.out)
 have T4 := hide ((hbN.block (w.heap.size + 1) (bl9 T3.out) (by omega)).trans T3.out)
 have R4 := hide ((hbN.block (w.heap.size + 1 + 1) (bl9 R3.out) (by omega)).trans R3.out)
 have L4 : Later w w4 := Below.trans L3 (hbN.below L3.size (fun k hk e => by omega))
 clear gW hbN P3 T3 R3 Q3 L3
 have kP := block_cell P4.out
 go_upto_region 10 with fail
 go_wp2_with fail
 refine (rparseTcp_any tos id ttl 6 src dst keep _ _ zd w4 hBd (hId.later L4) (by have := HF3.out; omega) hsr hds).mono ?_
 rintro e w5 ⟨l5, ⟨hf, _⟩ | ⟨_, os2, aO, cO, a5, c5, hos2, rfl, hOO, hOD⟩⟩
 ·exact absurd ho hf
 obtain rfl : os2 = os := Option.some.inj (hos2.symm.trans hos)
 obtain ⟨k0, hk0⟩ : ∃ x, wat zd 0 = x := ⟨_, rfl⟩
 obtain ⟨k2, hk2⟩ : ∃ x, wat zd 2 = x := ⟨_, rfl⟩
 have HB4 := hide (wat4_bdY hBd 4)
 have HB8 := hide (wat4_bdY hBd 8)
 have HB13 := hide (hBd.at 13)
 have HB14 := hide (wat_bd hBd 14)
 have HB18 := hide (wat_bd hBd 18)
 have HRW : Hid (rwR 6 s d a b os2 zd = tcp a b (wat4 zd 4) (wat4 zd 8) (zd[13]?.getD 0) (wat zd 14) (wat zd 18) (pad (obs os2)) s d (zd.drop (thd zd).toNat)) := rfl
 obtain ⟨h20, ht20, htl, _, _⟩ := pte_facts (show pte 6 src dst zd = 0 from ho)
 have hpt := pad_thd hBd ht20 hos
 have hok := (obOk_of hBd hos).1
 have HBO : Hid (ByO os2) := opts_by _ _ _ (Nat.le_refl _) (by unfold hop; exact (hBd.drop 20).take _) hos
 have hlm : (zd.drop (thd zd).toNat).length = zd.length - (thd zd).toNat := by rw [List.length_drop]
 have HLM := hide hlm
 have HLE : Hid ((zd.drop (thd zd).toNat).length ≤ zd.length) := by show _ ≤ _; rw [hlm]; omega
 have HBM := hide (hBd.drop (thd zd).toNat)
 have HBT : Hid (bte os2 zo.length (zd.drop (thd zd).toNat).length = 0) := by
  show _ = _
  unfold bte
  rw [if_pos hok, hlm]
  exact flt_mono HFL.out (by omega)
 rw [hk0, hk2]
 clear hk0 hk2 hpt hok hlm h20 ht20 htl hos hos2 ho kP
 generalize wat4 zd 4 = sq at *
 generalize wat4 zd 8 = ak at *
 generalize zd[13]?.getD 0 = fl at *
 generalize wat zd 14 = wn at *
 generalize wat zd 18 = ur at *
 generalize zd.drop (thd zd).toNat = zm at *
 generalize zd.length - (thd zd).toNat = nl at *
 have la6 := later_alloc' w5 (.cells #[.int .u16 k0, .int .u16 k2, .int .u32 sq, .int .u32 ak, .int .u8 fl, .int .u16 wn, .int .u16 ur, .slice aO os2.length cO, .slice a5 nl c5] 60)
 have S6 := hide (heap_alloc_new w5 (.cells #[.int .u16 k0, .int .u16 k2, .int .u32 sq, .int .u32 ak, .int .u8 fl, .int .u16 wn, .int .u16 ur, .slice aO os2.length cO, .slice a5 nl c5] 60))
 have m6 := Later.trans l5 la6
 have Q6 := hide (later_keep m6 Q4.out)
 have T6 := hide (later_keep m6 T4.out)
 have R6 := hide (later_keep m6 R4.out)
 have L6 := L4.trans m6
 have hgs : gq < w5.heap.size := Nat.lt_of_lt_of_le (bl9 Q4.out) (Below.size l5)
 have OO6 := hide (hOO.later la6)
 have OD6 := hide (hOD.later la6)
 clear P4 T4 R4 Q4 la6 L4 hOO hOD m6 l5
 go_upto_region 11 with fail
 generalize w5.alloc _ = w6 at *
 generalize w5.heap.size = gs at *
 refine anyT_begin (R := But (fun q => q = gs)) 8 rfl (by kernel_rfl) ?_
 have hdr : Later w6 w6.drew := Later.drew w6
 have gd := later_keep hdr S6.out
 have td := later_keep hdr T6.out
 generalize w6.drew = wd at *
 have qT : ∀ v1, But (fun q => q = gs) wd v1 → ∀ j, v1.cell? ⟨w.heap.size + 1, j, none⟩ = (#[.int .u8 6, .int .u32 s, .int .u32 d, .int .u16 a, .int .u16 b] : Array Value)[j]? := fun v1 h => block_cell ((h.block (w.heap.size + 1) (bl9 td) (by omega)).trans td)
 refine tV (But.pre _) 0 rfl rfl ?_; apply Exists.intro; refine ⟨fun v1 hv1 => ?_, ?_⟩; (· (go_simp; rfl)); simp only [Act.put, sA, sB, sC]
 refine tV (But.pre _) 1 rfl rfl ?_; apply Exists.intro; refine ⟨fun v1 hv1 => ?_, ?_⟩; (· (go_simp; rfl)); simp only [Act.put, sA, sB, sC]
 refine tV (But.pre _) 2 rfl rfl ?_; apply Exists.intro; refine ⟨fun v1 hv1 => ?_, ?_⟩; (· (go_simp; rfl)); simp only [Act.put, sA, sB, sC]
 refine tV (But.pre _) 3 rfl rfl ?_; apply Exists.intro; refine ⟨fun v1 hv1 => ?_, ?_⟩; (· (go_simp; rfl)); simp only [Act.put, sA, sB, sC]
 clear qT td
 refine tV (But.pre _) 4 rfl rfl ?_; apply Exists.intro; refine ⟨fun v1 hv1 => ?_, ?_⟩; (· (go_simp; rfl)); simp only [Act.put, sA, sB, sC]
 have kx := block_cell gd
 have fx := block_frozen gd
 refine anyT_one 5 rfl (by kernel_rfl) rfl ?_
 unfold Oper.wp
 go_simp
 generalize hV : wd.setCell ⟨gs, 0, none⟩ _ = V7
 have gV := heap_set1 gd 0 (.int .u16 a)
 rw [hV] at gV
 have hb7 : But (fun q => q = gs) wd V7 := by rw [← hV]; exact But.setCell (E := fun q => q = gs) (But.refl _ _) (p := ⟨gs, 0, none⟩) rfl _
 refine ⟨hb7, ?_⟩
 clear hV kx fx
 simp only [List.setIfInBounds_toArray, List.set_cons_zero, List.set_cons_succ] at gV
 refine tV (But.pre _) 6 rfl rfl ?_; apply Exists.intro; refine ⟨fun v1 hv1 => ?_, ?_⟩; (· (go_simp; rfl)); simp only [Act.put, sA, sB, sC]
 have kx := block_cell gV
 have fx := block_frozen gV
 refine anyT_one 7 rfl (by kernel_rfl) rfl ?_
 unfold Oper.wp
 go_simp
 generalize hV : V7.setCell ⟨gs, 1, none⟩ _ = w8
 have gW := heap_set1 gV 1 (.int .u16 b)
 rw [hV] at gW
 have hb8 : But (fun q => q = gs) V7 w8 := by rw [← hV]; exact But.setCell (E := fun q => q = gs) (But.refl _ _) (p := ⟨gs, 1, none⟩) rfl _
 refine ⟨hb8, ?_⟩
 clear hV kx fx gV gd
 simp only [List.setIfInBounds_toArray, List.set_cons_zero, List.set_cons_succ] at gW
 refine anyT_done (by kernel_rfl) ?_
 have hbN : But (fun q => q = gs) w6 w8 := (But.of hdr).trans (hb7.trans hb8)
 clear hb7 hb8 hdr
 have S8 := hide gW
 have Q8 := hide ((hbN.block gq (bl9 Q6.out) (by omega)).trans Q6.out)
 have R8 := hide ((hbN.block (w.heap.size + 1 + 1) (bl9 R6.out) (by omega)).trans R6.out)
 have L8 : Later w w8 := Below.trans L6 (hbN.below L6.size (fun k hk e => by omega))
 have OO8 := hide (OwO.asideS OO6.out S6.out (by decide) hbN)
 have OD8 := hide (Ow.aside OD6.out S6.out (by decide) hbN)
 clear gW hbN Q6 T6 R6 S6 OO6 OD6 L6
 have kQ := block_cell Q8.out
 have kS := block_cell S8.out
 have HBU := hide (rbuildTcp_any tos id ttl 6 s d a b sq ak fl wn ur keep (.slice ao zo.length co) (.slice aO os2.length cO) (.slice a5 nl c5) ad zd.length cd zo zm os2 w8 (hIo.later L8) HBM.out OD8.out.rd HBO.out OO8.out.rd (by have := HF1.out; omega) (by have := HLE.out; have := HF3.out; omega) hs hd ha hb HB4.out HB8.out HB13.out HB14.out HB18.out)
 obtain ⟨n8, HN8⟩ : ∃ n, Hid (20 + (pad (obs os2)).length + zm.length = n) := ⟨_, rfl⟩
 rw [HBT.out, HN8.out, ← HRW.out] at HBU
 clear HN8
 go_wp2_with fail
 refine HBU.out.mono ?_
 rintro e w9 ⟨l9, ⟨hf, _⟩ | ⟨_, a7, c7, a8, c8, rfl, Oo, Od⟩⟩
 ·exact absurd rfl hf
 have R9 := hide (later_keep l9 R8.out)
 have L9 : Later w w9 := L8.trans l9
 have O9 := hide (Oo.mono L8.size)
 have D9 := hide (Od.mono L8.size)
 clear kQ kS HBU Oo Od
 have kR := block_cell R9.out
 have fR := block_frozen R9.out
 go_wp2_with fail
 generalize hV : (((((((((w9.setCell ⟨w.heap.size + 1 + 1, 0, none⟩ _).setCell ⟨w.heap.size + 1 + 1, 1, none⟩ _).setCell ⟨w.heap.size + 1 + 1, 2, none⟩ _).setCell ⟨w.heap.size + 1 + 1, 3, none⟩ _).setCell ⟨w.heap.size + 1 + 1, 4, none⟩ _).setCell ⟨w.heap.size + 1 + 1, 5, none⟩ _).setCell ⟨w.heap.size + 1 + 1, 6, none⟩ _).setCell ⟨w.heap.size + 1 + 1, 7, none⟩ _).setCell ⟨w.heap.size + 1 + 1, 8, none⟩ _) = V
 have hV9 : V = putRow w9 (w.heap.size + 1 + 1) 0 [.int .u8 tos, .int .u16 id, .bool keep, .int .u8 ttl, .int .u8 6, .int .u32 s, .int .u32 d, .slice a7 zo.length c7, .slice a8 n8 c8] := hV.symm
 have hbV : But (fun q => q = w.heap.size + 1 + 1) w9 V := by rw [hV9]; exact putRow_but (E := fun q => q = w.heap.size + 1 + 1) (n := w.heap.size + 1 + 1) rfl _ _ _ _ (But.refl _ _)
 have pV := putRow_all [.int .u8 tos, .int .u16 id, .bool keep, .int .u8 ttl, .int .u8 6, .int .u32 s, .int .u32 d, .slice a7 zo.length c7, .slice a8 n8 c8] R9.out rfl
 rw [← hV9] at pV
 clear hV hV9 kR fR
 have PV := block_cell pV
 have hwV : Later w V := Below.trans L9 (hbV.below L9.size (fun k hk e => by omega))
 exact bodyPost_ret (v := .tuple #[.agg #[.int .u8 tos, .int .u16 id, .bool keep, .int .u8 ttl, .int .u8 6, .int .u32 s, .int .u32 d, .slice a7 zo.length c7, .slice a8 n8 c8], .int .i64 0]) (by simp [results, Tryz.results14, go_sem, PV]) rfl ⟨hwV, _, _, _, _, _, rfl, Ow.aside O9.out R9.out (by decide) hbV, Ow.aside D9.out R9.out (by decide) hbV⟩

set_option maxHeartbeats 16000000 in
theorem rrw_udp (tos id ttl src dst : Int) (keep : Bool) (so sd : Value) (zo zd : List Int) (s d a b : Int) (os : List Opt) (w : World) (hBo : Mt.By zo) (hBd : Mt.By zd) (hIo : Rd w.heap.size w so zo) (hId : Rd w.heap.size w sd zd) (hfl : flt zo.length zd.length = 0)
  (hsr : 0 ≤ src ∧ src ≤ 4294967295) (hds : 0 ≤ dst ∧ dst ≤ 4294967295) (hs : 0 ≤ s ∧ s ≤ 4294967295) (hd : 0 ≤ d ∧ d ≤ 4294967295) (ha : 0 ≤ a ∧ a ≤ 65535) (hb : 0 ≤ b ∧ b ≤ 65535) (ho : ofe 17 src dst zd = 0) :
  Calls Tryz.prog 14 #[.agg #[.int .u8 tos, .int .u16 id, .bool keep, .int .u8 ttl, .int .u8 17, .int .u32 src, .int .u32 dst, so, sd], .agg #[.int .u8 17, .int .u32 s, .int .u32 d, .int .u16 a, .int .u16 b]] w fun e w' => Later w w' ∧ ∃ a7 c7 a8 n8 c8, e = .returned (.tuple #[.agg #[.int .u8 tos, .int .u16 id, .bool keep, .int .u8 ttl, .int .u8 17, .int .u32 s, .int .u32 d, .slice a7 zo.length c7, .slice a8 n8 c8], .int .i64 0]) ∧ Ow w.heap.size w' (.slice a7 zo.length c7) zo ∧ Ow w.heap.size w' (.slice a8 n8 c8) (rwR 17 s d a b os zd) := by
 obtain ⟨hf1, hf2, hf3⟩ := flt_fit2 hfl
 have HFL := hide hfl
 have HF3 := hide hf3
 have HF1 := hide hf1
 obtain ⟨ao, co, rfl, _, _⟩ := hIo.slice
 obtain ⟨ad, cd, rfl, _, _⟩ := hId.slice
 have hb0 : Below w.heap.size w (((w.alloc (.cells #[.int .u8 tos, .int .u16 id, .bool keep, .int .u8 ttl, .int .u8 17, .int .u32 src, .int .u32 dst, .slice ao zo.length co, .slice ad zd.length cd] 26)).alloc (.cells #[.int .u8 17, .int .u32 s, .int .u32 d, .int .u16 a, .int .u16 b] 29)).alloc (.cells zpk.toArray 26)) := (((Below.refl _ _).alloc (Nat.le_refl _) _).alloc (by simp) _).alloc (by simp <;> omega) _
 have p0 : (((w.alloc (.cells #[.int .u8 tos, .int .u16 id, .bool keep, .int .u8 ttl, .int .u8 17, .int .u32 src, .int .u32 dst, .slice ao zo.length co, .slice ad zd.length cd] 26)).alloc (.cells #[.int .u8 17, .int .u32 s, .int .u32 d, .int .u16 a, .int .u16 b] 29)).alloc (.cells zpk.toArray 26)).heap[w.heap.size]? = some (.cells #[.int .u8 tos, .int .u16 id, .bool keep, .int .u8 ttl, .int .u8 17, .int .u32 src, .int .u32 dst, .slice ao zo.length co, .slice ad zd.length cd] 26) := (Below.heap_alloc _ _ _ (by simp <;> omega)).trans ((Below.heap_alloc _ _ _ (by simp)).trans (heap_alloc_new w _))
 have t0 : (((w.alloc (.cells #[.int .u8 tos, .int .u16 id, .bool keep, .int .u8 ttl, .int .u8 17, .int .u32 src, .int .u32 dst, .slice ao zo.length co, .slice ad zd.length cd] 26)).alloc (.cells #[.int .u8 17, .int .u32 s, .int .u32 d, .int .u16 a, .int .u16 b] 29)).alloc (.cells zpk.toArray 26)).heap[w.heap.size + 1]? = some (.cells #[.int .u8 17, .int .u32 s, .int .u32 d, .int .u16 a, .int .u16 b] 29) := by
  have := heap_alloc_new (w.alloc (.cells #[.int .u8 tos, .int .u16 id, .bool keep, .int .u8 ttl, .int .u8 17, .int .u32 src, .int .u32 dst, .slice ao zo.length co, .slice ad zd.length cd] 26)) (.cells #[.int .u8 17, .int .u32 s, .int .u32 d, .int .u16 a, .int .u16 b] 29)
  rw [World.size_alloc] at this
  exact (Below.heap_alloc _ _ _ (by simp)).trans this
 have r0 : (((w.alloc (.cells #[.int .u8 tos, .int .u16 id, .bool keep, .int .u8 ttl, .int .u8 17, .int .u32 src, .int .u32 dst, .slice ao zo.length co, .slice ad zd.length cd] 26)).alloc (.cells #[.int .u8 17, .int .u32 s, .int .u32 d, .int .u16 a, .int .u16 b] 29)).alloc (.cells zpk.toArray 26)).heap[w.heap.size + 1 + 1]? = some (.cells zpk.toArray 26) := by
  have := heap_alloc_new ((w.alloc (.cells #[.int .u8 tos, .int .u16 id, .bool keep, .int .u8 ttl, .int .u8 17, .int .u32 src, .int .u32 dst, .slice ao zo.length co, .slice ad zd.length cd] 26)).alloc (.cells #[.int .u8 17, .int .u32 s, .int .u32 d, .int .u16 a, .int .u16 b] 29)) (.cells zpk.toArray 26)
  simpa only [World.size_alloc] using this
 have P0 := hide p0
 have T0 := hide t0
 have R0 := hide r0
 clear p0 t0 r0 hf1 hf2 hf3 hfl
 go_enter Tryz.func14, Tryz.ntmps14
 go_upto_region 1 with fail
 generalize ((w.alloc _).alloc _).alloc _ = W0 at *
 have L0 : Later w W0 := hb0
 have kP := block_cell P0.out
 have kT := block_cell T0.out
 go_upto_region 3 with fail
 go_wp2_with fail
 refine (rof_any tos id ttl 17 src dst keep _ _ zd W0 hBd (hId.later L0) (by have := HF3.out; omega) hsr hds).mono ?_
 rintro e w1 ⟨hb1, rfl⟩
 rw [ho, otv_ok]
 have hq1 : ∃ x y, ofa 17 zd = x ∧ ofb 17 zd = y := ⟨_, _, rfl, rfl⟩
 obtain ⟨x1, y1, hx1, hy1⟩ := hq1
 rw [hx1, hy1]
 clear hx1 hy1 kP kT
 have l1 : Later W0 w1 := hb1
 have la1 := later_alloc' w1 (.cells #[.int .u8 17, .int .u32 src, .int .u32 dst, .int .u16 x1, .int .u16 y1] 29)
 have m1 := l1.trans la1
 have P2 := hide (later_keep m1 P0.out)
 have T2 := hide (later_keep m1 T0.out)
 have R2 := hide (later_keep m1 R0.out)
 have L2 := L0.trans m1
 clear P0 T0 R0 l1 hb1 la1 m1 L0 hb0
 go_upto_region 6 with fail
 generalize w1.alloc _ = w2 at *
 have kP := block_cell P2.out
 have la3 := later_alloc' w2 (.cells #[.int .u8 tos, .int .u16 id, .bool keep, .int .u8 ttl, .int .u8 17, .int .u32 src, .int .u32 dst, .slice ao zo.length co, .slice ad zd.length cd] 26)
 have Q3 := hide (heap_alloc_new w2 (.cells #[.int .u8 tos, .int .u16 id, .bool keep, .int .u8 ttl, .int .u8 17, .int .u32 src, .int .u32 dst, .slice ao zo.length co, .slice ad zd.length cd] 26))
 have P3 := hide (later_keep la3 P2.out)
 have T3 := hide (later_keep la3 T2.out)
 have R3 := hide (later_keep la3 R2.out)
 have L3 := L2.trans la3
 have hgr : w.heap.size + 1 + 1 < w2.heap.size := (bl9 R2.out)
 clear P2 T2 R2 la3 L2
 go_upto_region 7 with fail
 clear kP
 generalize w2.alloc _ = w3 at *
 generalize w2.heap.size = gq at *
 refine anyT_begin (R := But (fun q => q = gq)) 8 rfl (by kernel_rfl) ?_
 have hdr : Later w3 w3.drew := Later.drew w3
 have gd := later_keep hdr Q3.out
 have td := later_keep hdr T3.out
 generalize w3.drew = wd at *
 have qT : ∀ v1, But (fun q => q = gq) wd v1 → ∀ j, v1.cell? ⟨w.heap.size + 1, j, none⟩ = (#[.int .u8 17, .int .u32 s, .int .u32 d, .int .u16 a, .int .u16 b] : Array Value)[j]? := fun v1 h => block_cell ((h.block (w.heap.size + 1) (bl9 td) (by omega)).trans td)
 refine tV (But.pre _) 0 rfl rfl ?_; apply Exists.intro; refine ⟨fun v1 hv1 => ?_, ?_⟩; (· (go_simp; rfl)); simp only [Act.put, sA, sB, sC]
 refine tV (But.pre _) 1 rfl rfl ?_; apply Exists.intro; refine ⟨fun v1 hv1 => ?_, ?_⟩; (· (go_simp; rfl)); simp only [Act.put, sA, sB, sC]
 refine tV (But.pre _) 2 rfl rfl ?_; apply Exists.intro; refine ⟨fun v1 hv1 => ?_, ?_⟩; (· (go_simp; rfl)); simp only [Act.put, sA, sB, sC]
 refine tV (But.pre _) 3 rfl rfl ?_; apply Exists.intro; refine ⟨fun v1 hv1 => ?_, ?_⟩; (· (go_simp; rfl)); simp only [Act.put, sA, sB, sC]
 clear qT td
 refine tV (But.pre _) 4 rfl rfl ?_; apply Exists.intro; refine ⟨fun v1 hv1 => ?_, ?_⟩; (· (go_simp; rfl)); simp only [Act.put, sA, sB, sC]
 have kx := block_cell gd
 have fx := block_frozen gd
 refine anyT_one 5 rfl (by kernel_rfl) rfl ?_
 unfold Oper.wp
 go_simp
 generalize hV : wd.setCell ⟨gq, 5, none⟩ _ = V7
 have gV := heap_set1 gd 5 (.int .u32 s)
 rw [hV] at gV
 have hb7 : But (fun q => q = gq) wd V7 := by rw [← hV]; exact But.setCell (E := fun q => q = gq) (But.refl _ _) (p := ⟨gq, 5, none⟩) rfl _
 refine ⟨hb7, ?_⟩
 clear hV kx fx
 simp only [List.setIfInBounds_toArray, List.set_cons_zero, List.set_cons_succ] at gV
 refine tV (But.pre _) 6 rfl rfl ?_; apply Exists.intro; refine ⟨fun v1 hv1 => ?_, ?_⟩; (· (go_simp; rfl)); simp only [Act.put, sA, sB, sC]
 have kx := block_cell gV
 have fx := block_frozen gV
 refine anyT_one 7 rfl (by kernel_rfl) rfl ?_
 unfold Oper.wp
 go_simp
 generalize hV : V7.setCell ⟨gq, 6, none⟩ _ = w4
 have gW := heap_set1 gV 6 (.int .u32 d)
 rw [hV] at gW
 have hb8 : But (fun q => q = gq) V7 w4 := by rw [← hV]; exact But.setCell (E := fun q => q = gq) (But.refl _ _) (p := ⟨gq, 6, none⟩) rfl _
 refine ⟨hb8, ?_⟩
 clear hV kx fx gV gd
 simp only [List.setIfInBounds_toArray, List.set_cons_zero, List.set_cons_succ] at gW
 refine anyT_done (by kernel_rfl) ?_
 have hbN : But (fun q => q = gq) w3 w4 := (But.of hdr).trans (hb7.trans hb8)
 clear hb7 hb8 hdr
 have Q4 := hide gW
 have P4 := hide ((hbN.block w.heap.size (bl9 P3.out) (by omega)).trans P3.out)
 have T4 := hide ((hbN.block (w.heap.size + 1) (bl9 T3.out) (by omega)).trans T3.out)
 have R4 := hide ((hbN.block (w.heap.size + 1 + 1) (bl9 R3.out) (by omega)).trans R3.out)
 have L4 : Later w w4 := Below.trans L3 (hbN.below L3.size (fun k hk e => by omega))
 clear gW hbN P3 T3 R3 Q3 L3
 have kP := block_cell P4.out
 go_upto_region 14 with fail
 go_wp2_with fail
 refine (rparseUdp_any tos id ttl 17 src dst keep _ _ zd w4 hBd (hId.later L4) (by have := HF3.out; omega) hsr hds).mono ?_
 rintro e w5 ⟨l5, ⟨hf, _⟩ | ⟨_, a5, c5, rfl, hOD⟩⟩
 ·exact absurd ho hf
 obtain ⟨k0, hk0⟩ : ∃ x, wat zd 0 = x := ⟨_, rfl⟩
 obtain ⟨k2, hk2⟩ : ∃ x, wat zd 2 = x := ⟨_, rfl⟩
 have HRW : Hid (rwR 17 s d a b os zd = udp a b (wat zd 6 == 0) s d (zd.drop 8)) := rfl
 obtain ⟨h8, _, _⟩ := pue_facts (show pue 17 src dst zd = 0 from ho)
 have hlm : (zd.drop 8).length = zd.length - 8 := by rw [List.length_drop]
 have HLE : Hid ((zd.drop 8).length ≤ zd.length) := by show _ ≤ _; rw [hlm]; omega
 have HBM := hide (hBd.drop 8)
 have HBT : Hid (flt zo.length (8 + (zd.drop 8).length) = 0) := by
  show _ = _
  rw [hlm]
  exact flt_mono HFL.out (by omega)
 rw [hk0, hk2]
 clear hk0 hk2 hlm h8 ho kP
 generalize (wat zd 6 == 0) = bare at *
 generalize zd.drop 8 = zm at *
 generalize zd.length - 8 = nl at *
 have la6 := later_alloc' w5 (.cells #[.int .u16 k0, .int .u16 k2, .bool bare, .slice a5 nl c5] 57)
 have S6 := hide (heap_alloc_new w5 (.cells #[.int .u16 k0, .int .u16 k2, .bool bare, .slice a5 nl c5] 57))
 have m6 := Later.trans l5 la6
 have Q6 := hide (later_keep m6 Q4.out)
 have T6 := hide (later_keep m6 T4.out)
 have R6 := hide (later_keep m6 R4.out)
 have L6 := L4.trans m6
 have hgs : gq < w5.heap.size := Nat.lt_of_lt_of_le (bl9 Q4.out) (Below.size l5)
 have OD6 := hide (hOD.later la6)
 clear P4 T4 R4 Q4 la6 L4 hOD m6 l5
 go_upto_region 15 with fail
 generalize w5.alloc _ = w6 at *
 generalize w5.heap.size = gs at *
 refine anyT_begin (R := But (fun q => q = gs)) 8 rfl (by kernel_rfl) ?_
 have hdr : Later w6 w6.drew := Later.drew w6
 have gd := later_keep hdr S6.out
 have td := later_keep hdr T6.out
 generalize w6.drew = wd at *
 have qT : ∀ v1, But (fun q => q = gs) wd v1 → ∀ j, v1.cell? ⟨w.heap.size + 1, j, none⟩ = (#[.int .u8 17, .int .u32 s, .int .u32 d, .int .u16 a, .int .u16 b] : Array Value)[j]? := fun v1 h => block_cell ((h.block (w.heap.size + 1) (bl9 td) (by omega)).trans td)
 refine tV (But.pre _) 0 rfl rfl ?_; apply Exists.intro; refine ⟨fun v1 hv1 => ?_, ?_⟩; (· (go_simp; rfl)); simp only [Act.put, sA, sB, sC]
 refine tV (But.pre _) 1 rfl rfl ?_; apply Exists.intro; refine ⟨fun v1 hv1 => ?_, ?_⟩; (· (go_simp; rfl)); simp only [Act.put, sA, sB, sC]
 refine tV (But.pre _) 2 rfl rfl ?_; apply Exists.intro; refine ⟨fun v1 hv1 => ?_, ?_⟩; (· (go_simp; rfl)); simp only [Act.put, sA, sB, sC]
 refine tV (But.pre _) 3 rfl rfl ?_; apply Exists.intro; refine ⟨fun v1 hv1 => ?_, ?_⟩; (· (go_simp; rfl)); simp only [Act.put, sA, sB, sC]
 clear qT td
 refine tV (But.pre _) 4 rfl rfl ?_; apply Exists.intro; refine ⟨fun v1 hv1 => ?_, ?_⟩; (· (go_simp; rfl)); simp only [Act.put, sA, sB, sC]
 have kx := block_cell gd
 have fx := block_frozen gd
 refine anyT_one 5 rfl (by kernel_rfl) rfl ?_
 unfold Oper.wp
 go_simp
 generalize hV : wd.setCell ⟨gs, 0, none⟩ _ = V7
 have gV := heap_set1 gd 0 (.int .u16 a)
 rw [hV] at gV
 have hb7 : But (fun q => q = gs) wd V7 := by rw [← hV]; exact But.setCell (E := fun q => q = gs) (But.refl _ _) (p := ⟨gs, 0, none⟩) rfl _
 refine ⟨hb7, ?_⟩
 clear hV kx fx
 simp only [List.setIfInBounds_toArray, List.set_cons_zero, List.set_cons_succ] at gV
 refine tV (But.pre _) 6 rfl rfl ?_; apply Exists.intro; refine ⟨fun v1 hv1 => ?_, ?_⟩; (· (go_simp; rfl)); simp only [Act.put, sA, sB, sC]
 have kx := block_cell gV
 have fx := block_frozen gV
 refine anyT_one 7 rfl (by kernel_rfl) rfl ?_
 unfold Oper.wp
 go_simp
 generalize hV : V7.setCell ⟨gs, 1, none⟩ _ = w8
 have gW := heap_set1 gV 1 (.int .u16 b)
 rw [hV] at gW
 have hb8 : But (fun q => q = gs) V7 w8 := by rw [← hV]; exact But.setCell (E := fun q => q = gs) (But.refl _ _) (p := ⟨gs, 1, none⟩) rfl _
 refine ⟨hb8, ?_⟩
 clear hV kx fx gV gd
 simp only [List.setIfInBounds_toArray, List.set_cons_zero, List.set_cons_succ] at gW
 refine anyT_done (by kernel_rfl) ?_
 have hbN : But (fun q => q = gs) w6 w8 := (But.of hdr).trans (hb7.trans hb8)
 clear hb7 hb8 hdr
 have S8 := hide gW
 have Q8 := hide ((hbN.block gq (bl9 Q6.out) (by omega)).trans Q6.out)
 have R8 := hide ((hbN.block (w.heap.size + 1 + 1) (bl9 R6.out) (by omega)).trans R6.out)
 have L8 : Later w w8 := Below.trans L6 (hbN.below L6.size (fun k hk e => by omega))
 have OD8 := hide (Ow.aside OD6.out S6.out (by decide) hbN)
 clear gW hbN Q6 T6 R6 S6 OD6 L6
 have kQ := block_cell Q8.out
 have kS := block_cell S8.out
 have HBU := hide (rbuildUdp_any tos id ttl 17 s d a b keep bare (.slice ao zo.length co) (.slice a5 nl c5) ad zd.length cd zo zm w8 (hIo.later L8) HBM.out OD8.out.rd (by have := HF1.out; omega) (by have := HLE.out; have := HF3.out; omega) hs hd ha hb)
 rw [HBT.out, ← HRW.out] at HBU
 obtain ⟨n8, HN8⟩ : ∃ n, Hid (8 + zm.length = n) := ⟨_, rfl⟩
 rw [HN8.out] at HBU
 clear HN8
 go_wp2_with fail
 refine HBU.out.mono ?_
 rintro e w9 ⟨l9, ⟨hf, _⟩ | ⟨_, a7, c7, a8, c8, rfl, Oo, Od⟩⟩
 ·exact absurd rfl hf
 have R9 := hide (later_keep l9 R8.out)
 have L9 : Later w w9 := L8.trans l9
 have O9 := hide (Oo.mono L8.size)
 have D9 := hide (Od.mono L8.size)
 clear kQ kS HBU Oo Od
 have kR := block_cell R9.out
 have fR := block_frozen R9.out
 go_wp2_with fail
 generalize hV : (((((((((w9.setCell ⟨w.heap.size + 1 + 1, 0, none⟩ _).setCell ⟨w.heap.size + 1 + 1, 1, none⟩ _).setCell ⟨w.heap.size + 1 + 1, 2, none⟩ _).setCell ⟨w.heap.size + 1 + 1, 3, none⟩ _).setCell ⟨w.heap.size + 1 + 1, 4, none⟩ _).setCell ⟨w.heap.size + 1 + 1, 5, none⟩ _).setCell ⟨w.heap.size + 1 + 1, 6, none⟩ _).setCell ⟨w.heap.size + 1 + 1, 7, none⟩ _).setCell ⟨w.heap.size + 1 + 1, 8, none⟩ _) = V
 have hV9 : V = putRow w9 (w.heap.size + 1 + 1) 0 [.int .u8 tos, .int .u16 id, .bool keep, .int .u8 ttl, .int .u8 17, .int .u32 s, .int .u32 d, .slice a7 zo.length c7, .slice a8 n8 c8] := hV.symm
 have hbV : But (fun q => q = w.heap.size + 1 + 1) w9 V := by rw [hV9]; exact putRow_but (E := fun q => q = w.heap.size + 1 + 1) (n := w.heap.size + 1 + 1) rfl _ _ _ _ (But.refl _ _)
 have pV := putRow_all [.int .u8 tos, .int .u16 id, .bool keep, .int .u8 ttl, .int .u8 17, .int .u32 s, .int .u32 d, .slice a7 zo.length c7, .slice a8 n8 c8] R9.out rfl
 rw [← hV9] at pV
 clear hV hV9 kR fR
 have PV := block_cell pV
 have hwV : Later w V := Below.trans L9 (hbV.below L9.size (fun k hk e => by omega))
 exact bodyPost_ret (v := .tuple #[.agg #[.int .u8 tos, .int .u16 id, .bool keep, .int .u8 ttl, .int .u8 17, .int .u32 s, .int .u32 d, .slice a7 zo.length c7, .slice a8 n8 c8], .int .i64 0]) (by simp [results, Tryz.results14, go_sem, PV]) rfl ⟨hwV, _, _, _, _, _, rfl, Ow.aside O9.out R9.out (by decide) hbV, Ow.aside D9.out R9.out (by decide) hbV⟩

theorem icm_good_of {src dst : Int} {zd : List Int} (ho : ofe 1 src dst zd = 0) : pie 1 zd = 0 := by
 obtain ⟨h8, hg, _⟩ := oie_facts (show oie zd = 0 from ho)
 unfold pie
 rw [if_neg (by omega), if_neg (by omega), if_neg (by simp [hg])]
theorem or_add16 (a rs : Int) (ha : 0 ≤ a ∧ a ≤ 65535) (hr : 0 ≤ rs ∧ rs ≤ 4294967295) : bits .or .u32 (a * 65536) (rs % 65536) = a * 65536 + rs % 65536 := by
 rw [u32_or _ _ (by omega) (by omega) (by omega) (by omega)]
 have := nat_join 16 (a * 65536).toNat (rs % 65536).toNat (by omega) (by omega)
 omega

set_option maxHeartbeats 16000000 in
theorem rrw_icmp (tos id ttl src dst : Int) (keep : Bool) (so sd : Value) (zo zd : List Int) (s d a b : Int) (os : List Opt) (w : World) (hBo : Mt.By zo) (hBd : Mt.By zd) (hIo : Rd w.heap.size w so zo) (hId : Rd w.heap.size w sd zd) (hfl : flt zo.length zd.length = 0)
  (hsr : 0 ≤ src ∧ src ≤ 4294967295) (hds : 0 ≤ dst ∧ dst ≤ 4294967295) (hs : 0 ≤ s ∧ s ≤ 4294967295) (hd : 0 ≤ d ∧ d ≤ 4294967295) (ha : 0 ≤ a ∧ a ≤ 65535) (hb : 0 ≤ b ∧ b ≤ 65535) (ho : ofe 1 src dst zd = 0) :
  Calls Tryz.prog 14 #[.agg #[.int .u8 tos, .int .u16 id, .bool keep, .int .u8 ttl, .int .u8 1, .int .u32 src, .int .u32 dst, so, sd], .agg #[.int .u8 1, .int .u32 s, .int .u32 d, .int .u16 a, .int .u16 b]] w fun e w' => Later w w' ∧ ∃ a7 c7 a8 n8 c8, e = .returned (.tuple #[.agg #[.int .u8 tos, .int .u16 id, .bool keep, .int .u8 ttl, .int .u8 1, .int .u32 s, .int .u32 d, .slice a7 zo.length c7, .slice a8 n8 c8], .int .i64 0]) ∧ Ow w.heap.size w' (.slice a7 zo.length c7) zo ∧ Ow w.heap.size w' (.slice a8 n8 c8) (rwR 1 s d a b os zd) := by
 obtain ⟨hf1, hf2, hf3⟩ := flt_fit2 hfl
 have HFL := hide hfl
 have HF3 := hide hf3
 have HF1 := hide hf1
 obtain ⟨ao, co, rfl, _, _⟩ := hIo.slice
 obtain ⟨ad, cd, rfl, _, _⟩ := hId.slice
 have hb0 : Below w.heap.size w (((w.alloc (.cells #[.int .u8 tos, .int .u16 id, .bool keep, .int .u8 ttl, .int .u8 1, .int .u32 src, .int .u32 dst, .slice ao zo.length co, .slice ad zd.length cd] 26)).alloc (.cells #[.int .u8 1, .int .u32 s, .int .u32 d, .int .u16 a, .int .u16 b] 29)).alloc (.cells zpk.toArray 26)) := (((Below.refl _ _).alloc (Nat.le_refl _) _).alloc (by simp) _).alloc (by simp <;> omega) _
 have p0 : (((w.alloc (.cells #[.int .u8 tos, .int .u16 id, .bool keep, .int .u8 ttl, .int .u8 1, .int .u32 src, .int .u32 dst, .slice ao zo.length co, .slice ad zd.length cd] 26)).alloc (.cells #[.int .u8 1, .int .u32 s, .int .u32 d, .int .u16 a, .int .u16 b] 29)).alloc (.cells zpk.toArray 26)).heap[w.heap.size]? = some (.cells #[.int .u8 tos, .int .u16 id, .bool keep, .int .u8 ttl, .int .u8 1, .int .u32 src, .int .u32 dst, .slice ao zo.length co, .slice ad zd.length cd] 26) := (Below.heap_alloc _ _ _ (by simp <;> omega)).trans ((Below.heap_alloc _ _ _ (by simp)).trans (heap_alloc_new w _))
 have t0 : (((w.alloc (.cells #[.int .u8 tos, .int .u16 id, .bool keep, .int .u8 ttl, .int .u8 1, .int .u32 src, .int .u32 dst, .slice ao zo.length co, .slice ad zd.length cd] 26)).alloc (.cells #[.int .u8 1, .int .u32 s, .int .u32 d, .int .u16 a, .int .u16 b] 29)).alloc (.cells zpk.toArray 26)).heap[w.heap.size + 1]? = some (.cells #[.int .u8 1, .int .u32 s, .int .u32 d, .int .u16 a, .int .u16 b] 29) := by
  have := heap_alloc_new (w.alloc (.cells #[.int .u8 tos, .int .u16 id, .bool keep, .int .u8 ttl, .int .u8 1, .int .u32 src, .int .u32 dst, .slice ao zo.length co, .slice ad zd.length cd] 26)) (.cells #[.int .u8 1, .int .u32 s, .int .u32 d, .int .u16 a, .int .u16 b] 29)
  rw [World.size_alloc] at this
  exact (Below.heap_alloc _ _ _ (by simp)).trans this
 have r0 : (((w.alloc (.cells #[.int .u8 tos, .int .u16 id, .bool keep, .int .u8 ttl, .int .u8 1, .int .u32 src, .int .u32 dst, .slice ao zo.length co, .slice ad zd.length cd] 26)).alloc (.cells #[.int .u8 1, .int .u32 s, .int .u32 d, .int .u16 a, .int .u16 b] 29)).alloc (.cells zpk.toArray 26)).heap[w.heap.size + 1 + 1]? = some (.cells zpk.toArray 26) := by
  have := heap_alloc_new ((w.alloc (.cells #[.int .u8 tos, .int .u16 id, .bool keep, .int .u8 ttl, .int .u8 1, .int .u32 src, .int .u32 dst, .slice ao zo.length co, .slice ad zd.length cd] 26)).alloc (.cells #[.int .u8 1, .int .u32 s, .int .u32 d, .int .u16 a, .int .u16 b] 29)) (.cells zpk.toArray 26)
  simpa only [World.size_alloc] using this
 have P0 := hide p0
 have T0 := hide t0
 have R0 := hide r0
 clear p0 t0 r0 hf1 hf2 hf3 hfl
 go_enter Tryz.func14, Tryz.ntmps14
 go_upto_region 1 with fail
 generalize ((w.alloc _).alloc _).alloc _ = W0 at *
 have L0 : Later w W0 := hb0
 have kP := block_cell P0.out
 have kT := block_cell T0.out
 go_upto_region 3 with fail
 go_wp2_with fail
 refine (rof_any tos id ttl 1 src dst keep _ _ zd W0 hBd (hId.later L0) (by have := HF3.out; omega) hsr hds).mono ?_
 rintro e w1 ⟨hb1, rfl⟩
 rw [ho, otv_ok]
 have hq1 : ∃ x y, ofa 1 zd = x ∧ ofb 1 zd = y := ⟨_, _, rfl, rfl⟩
 obtain ⟨x1, y1, hx1, hy1⟩ := hq1
 rw [hx1, hy1]
 clear hx1 hy1 kP kT
 have l1 : Later W0 w1 := hb1
 have la1 := later_alloc' w1 (.cells #[.int .u8 1, .int .u32 src, .int .u32 dst, .int .u16 x1, .int .u16 y1] 29)
 have m1 := l1.trans la1
 have P2 := hide (later_keep m1 P0.out)
 have T2 := hide (later_keep m1 T0.out)
 have R2 := hide (later_keep m1 R0.out)
 have L2 := L0.trans m1
 clear P0 T0 R0 l1 hb1 la1 m1 L0 hb0
 go_upto_region 6 with fail
 generalize w1.alloc _ = w2 at *
 have kP := block_cell P2.out
 have la3 := later_alloc' w2 (.cells #[.int .u8 tos, .int .u16 id, .bool keep, .int .u8 ttl, .int .u8 1, .int .u32 src, .int .u32 dst, .slice ao zo.length co, .slice ad zd.length cd] 26)
 have Q3 := hide (heap_alloc_new w2 (.cells #[.int .u8 tos, .int .u16 id, .bool keep, .int .u8 ttl, .int .u8 1, .int .u32 src, .int .u32 dst, .slice ao zo.length co, .slice ad zd.length cd] 26))
 have P3 := hide (later_keep la3 P2.out)
 have T3 := hide (later_keep la3 T2.out)
 have R3 := hide (later_keep la3 R2.out)
 have L3 := L2.trans la3
 have hgr : w.heap.size + 1 + 1 < w2.heap.size := (bl9 R2.out)
 clear P2 T2 R2 la3 L2
 go_upto_region 7 with fail
 clear kP
 generalize w2.alloc _ = w3 at *
 generalize w2.heap.size = gq at *
 refine anyT_begin (R := But (fun q => q = gq)) 8 rfl (by kernel_rfl) ?_
 have hdr : Later w3 w3.drew := Later.drew w3
 have gd := later_keep hdr Q3.out
 have td := later_keep hdr T3.out
 generalize w3.drew = wd at *
 have qT : ∀ v1, But (fun q => q = gq) wd v1 → ∀ j, v1.cell? ⟨w.heap.size + 1, j, none⟩ = (#[.int .u8 1, .int .u32 s, .int .u32 d, .int .u16 a, .int .u16 b] : Array Value)[j]? := fun v1 h => block_cell ((h.block (w.heap.size + 1) (bl9 td) (by omega)).trans td)
 refine tV (But.pre _) 0 rfl rfl ?_; apply Exists.intro; refine ⟨fun v1 hv1 => ?_, ?_⟩; (· (go_simp; rfl)); simp only [Act.put, sA, sB, sC]
 refine tV (But.pre _) 1 rfl rfl ?_; apply Exists.intro; refine ⟨fun v1 hv1 => ?_, ?_⟩; (· (go_simp; rfl)); simp only [Act.put, sA, sB, sC]
 refine tV (But.pre _) 2 rfl rfl ?_; apply Exists.intro; refine ⟨fun v1 hv1 => ?_, ?_⟩; (· (go_simp; rfl)); simp only [Act.put, sA, sB, sC]
 refine tV (But.pre _) 3 rfl rfl ?_; apply Exists.intro; refine ⟨fun v1 hv1 => ?_, ?_⟩; (· (go_simp; rfl)); simp only [Act.put, sA, sB, sC]
 clear qT td
 refine tV (But.pre _) 4 rfl rfl ?_; apply Exists.intro; refine ⟨fun v1 hv1 => ?_, ?_⟩; (· (go_simp; rfl)); simp only [Act.put, sA, sB, sC]
 have kx := block_cell gd
 have fx := block_frozen gd
 refine anyT_one 5 rfl (by kernel_rfl) rfl ?_
 unfold Oper.wp
 go_simp
 generalize hV : wd.setCell ⟨gq, 5, none⟩ _ = V7
 have gV := heap_set1 gd 5 (.int .u32 s)
 rw [hV] at gV
 have hb7 : But (fun q => q = gq) wd V7 := by rw [← hV]; exact But.setCell (E := fun q => q = gq) (But.refl _ _) (p := ⟨gq, 5, none⟩) rfl _
 refine ⟨hb7, ?_⟩
 clear hV kx fx
 simp only [List.setIfInBounds_toArray, List.set_cons_zero, List.set_cons_succ] at gV
 refine tV (But.pre _) 6 rfl rfl ?_; apply Exists.intro; refine ⟨fun v1 hv1 => ?_, ?_⟩; (· (go_simp; rfl)); simp only [Act.put, sA, sB, sC]
 have kx := block_cell gV
 have fx := block_frozen gV
 refine anyT_one 7 rfl (by kernel_rfl) rfl ?_
 unfold Oper.wp
 go_simp
 generalize hV : V7.setCell ⟨gq, 6, none⟩ _ = w4
 have gW := heap_set1 gV 6 (.int .u32 d)
 rw [hV] at gW
 have hb8 : But (fun q => q = gq) V7 w4 := by rw [← hV]; exact But.setCell (E := fun q => q = gq) (But.refl _ _) (p := ⟨gq, 6, none⟩) rfl _
 refine ⟨hb8, ?_⟩
 clear hV kx fx gV gd
 simp only [List.setIfInBounds_toArray, List.set_cons_zero, List.set_cons_succ] at gW
 refine anyT_done (by kernel_rfl) ?_
 have hbN : But (fun q => q = gq) w3 w4 := (But.of hdr).trans (hb7.trans hb8)
 clear hb7 hb8 hdr
 have Q4 := hide gW
 have P4 := hide ((hbN.block w.heap.size (bl9 P3.out) (by omega)).trans P3.out)
 have T4 := hide ((hbN.block (w.heap.size + 1) (bl9 T3.out) (by omega)).trans T3.out)
 have R4 := hide ((hbN.block (w.heap.size + 1 + 1) (bl9 R3.out) (by omega)).trans R3.out)
 have L4 : Later w w4 := Below.trans L3 (hbN.below L3.size (fun k hk e => by omega))
 clear gW hbN P3 T3 R3 Q3 L3
 have kP := block_cell P4.out
 go_upto_region 18 with fail
 go_wp2_with fail
 refine (rparseIcmp_any tos id ttl 1 src dst keep _ _ zd w4 hBd (hId.later L4) (by have := HF3.out; omega)).mono ?_
 rintro e w5 ⟨l5, ⟨hf, _⟩ | ⟨_, a5, c5, rfl, hOD⟩⟩
 ·exact absurd (icm_good_of ho) hf
 have HRW : Hid (rwR 1 s d a b os zd = icm (zd[0]?.getD 0) (zd[1]?.getD 0) (a * 65536 + wat zd 6) (zd.drop 8)) := rfl
 obtain ⟨h8, _, _⟩ := oie_facts (show oie zd = 0 from ho)
 have hlm : (zd.drop 8).length = zd.length - 8 := by rw [List.length_drop]
 have HLE : Hid ((zd.drop 8).length ≤ zd.length) := by show _ ≤ _; rw [hlm]; omega
 have HBM := hide (hBd.drop 8)
 have HTY := hide (hBd.at 0)
 have HCO := hide (hBd.at 1)
 have HBT : Hid (flt zo.length (8 + (zd.drop 8).length) = 0) := by
  show _ = _
  rw [hlm]
  exact flt_mono HFL.out (by omega)
 have hrs : wat4 zd 4 % 65536 = wat zd 6 := by
  have := wat_bd hBd 6
  show (wat zd 4 * 65536 + wat zd 6) % 65536 = wat zd 6
  omega
 have hrb := wat4_bdY hBd 4
 rw [← hrs] at HRW
 clear hlm h8 ho kP hrs
 generalize wat4 zd 4 = rs at *
 generalize zd[0]?.getD 0 = ty at *
 generalize zd[1]?.getD 0 = cde at *
 generalize zd.drop 8 = zm at *
 generalize zd.length - 8 = nl at *
 have la6 := later_alloc' w5 (.cells #[.int .u8 ty, .int .u8 cde, .int .u32 rs, .slice a5 nl c5] 42)
 have S6 := hide (heap_alloc_new w5 (.cells #[.int .u8 ty, .int .u8 cde, .int .u32 rs, .slice a5 nl c5] 42))
 have m6 := Later.trans l5 la6
 have Q6 := hide (later_keep m6 Q4.out)
 have T6 := hide (later_keep m6 T4.out)
 have R6 := hide (later_keep m6 R4.out)
 have L6 := L4.trans m6
 have hgs : gq < w5.heap.size := Nat.lt_of_lt_of_le (bl9 Q4.out) (Below.size l5)
 have OD6 := hide (hOD.later la6)
 clear P4 T4 R4 Q4 la6 L4 hOD m6 l5
 go_upto_region 19 with fail
 generalize w5.alloc _ = w6 at *
 generalize w5.heap.size = gs at *
 have hsh : (a : Int) * 65536 ≤ 4294967295 := by omega
 have hor : bits .or .u32 (a * 65536) (rs % 65536) = a * 65536 + rs % 65536 := or_add16 a rs ha hrb
 have kS := block_cell S6.out
 have fS := block_frozen S6.out
 have kT := block_cell T6.out
 have gW := heap_set1 S6.out 2 (.int .u32 (a * 65536 + rs % 65536))
 have hbN : But (fun q => q = gs) w6 (w6.setCell ⟨gs, 2, none⟩ (.int .u32 (a * 65536 + rs % 65536))) := But.setCell (E := fun q => q = gs) (But.refl _ _) (p := ⟨gs, 2, none⟩) rfl _
 go_upto_region 20 with fail
 clear kS fS kT
 generalize w6.setCell ⟨gs, 2, none⟩ _ = w8 at *
 simp only [List.setIfInBounds_toArray, List.set_cons_zero, List.set_cons_succ] at gW
 have S8 := hide gW
 have Q8 := hide ((hbN.block gq (bl9 Q6.out) (by omega)).trans Q6.out)
 have R8 := hide ((hbN.block (w.heap.size + 1 + 1) (bl9 R6.out) (by omega)).trans R6.out)
 have L8 : Later w w8 := Below.trans L6 (hbN.below L6.size (fun k hk e => by omega))
 have OD8 := hide (Ow.aside OD6.out S6.out (by decide) hbN)
 clear gW hbN Q6 T6 R6 S6 OD6 L6 hor hsh
 have kQ := block_cell Q8.out
 have kS := block_cell S8.out
 have HBU := hide (rbuildIcmp_any tos id ttl 1 s d ty cde (a * 65536 + rs % 65536) keep (.slice ao zo.length co) (.slice a5 nl c5) ad zd.length cd zo zm w8 (hIo.later L8) HBM.out OD8.out.rd (by have := HF1.out; omega) (by have := HLE.out; have := HF3.out; omega) HTY.out HCO.out (by omega))
 rw [HBT.out, ← HRW.out] at HBU
 obtain ⟨n8, HN8⟩ : ∃ n, Hid (8 + zm.length = n) := ⟨_, rfl⟩
 rw [HN8.out] at HBU
 clear HN8
 go_wp2_with fail
 refine HBU.out.mono ?_
 rintro e w9 ⟨l9, ⟨hf, _⟩ | ⟨_, a7, c7, a8, c8, rfl, Oo, Od⟩⟩
 ·exact absurd rfl hf
 have R9 := hide (later_keep l9 R8.out)
 have L9 : Later w w9 := L8.trans l9
 have O9 := hide (Oo.mono L8.size)
 have D9 := hide (Od.mono L8.size)
 clear kQ kS HBU Oo Od
 have kR := block_cell R9.out
 have fR := block_frozen R9.out
 go_wp2_with fail
 generalize hV : (((((((((w9.setCell ⟨w.heap.size + 1 + 1, 0, none⟩ _).setCell ⟨w.heap.size + 1 + 1, 1, none⟩ _).setCell ⟨w.heap.size + 1 + 1, 2, none⟩ _).setCell ⟨w.heap.size + 1 + 1, 3, none⟩ _).setCell ⟨w.heap.size + 1 + 1, 4, none⟩ _).setCell ⟨w.heap.size + 1 + 1, 5, none⟩ _).setCell ⟨w.heap.size + 1 + 1, 6, none⟩ _).setCell ⟨w.heap.size + 1 + 1, 7, none⟩ _).setCell ⟨w.heap.size + 1 + 1, 8, none⟩ _) = V
 have hV9 : V = putRow w9 (w.heap.size + 1 + 1) 0 [.int .u8 tos, .int .u16 id, .bool keep, .int .u8 ttl, .int .u8 1, .int .u32 s, .int .u32 d, .slice a7 zo.length c7, .slice a8 n8 c8] := hV.symm
 have hbV : But (fun q => q = w.heap.size + 1 + 1) w9 V := by rw [hV9]; exact putRow_but (E := fun q => q = w.heap.size + 1 + 1) (n := w.heap.size + 1 + 1) rfl _ _ _ _ (But.refl _ _)
 have pV := putRow_all [.int .u8 tos, .int .u16 id, .bool keep, .int .u8 ttl, .int .u8 1, .int .u32 s, .int .u32 d, .slice a7 zo.length c7, .slice a8 n8 c8] R9.out rfl
 rw [← hV9] at pV
 clear hV hV9 kR fR
 have PV := block_cell pV
 have hwV : Later w V := Below.trans L9 (hbV.below L9.size (fun k hk e => by omega))
 exact bodyPost_ret (v := .tuple #[.agg #[.int .u8 tos, .int .u16 id, .bool keep, .int .u8 ttl, .int .u8 1, .int .u32 s, .int .u32 d, .slice a7 zo.length c7, .slice a8 n8 c8], .int .i64 0]) (by simp [results, Tryz.results14, go_sem, PV]) rfl ⟨hwV, _, _, _, _, _, rfl, Ow.aside O9.out R9.out (by decide) hbV, Ow.aside D9.out R9.out (by decide) hbV⟩

set_option maxHeartbeats 16000000 in
theorem rrw_gre (tos id ttl src dst : Int) (keep : Bool) (so sd : Value) (zo zd : List Int) (s d a b : Int) (os : List Opt) (w : World) (hBo : Mt.By zo) (hBd : Mt.By zd) (hIo : Rd w.heap.size w so zo) (hId : Rd w.heap.size w sd zd) (hfl : flt zo.length zd.length = 0)
  (hsr : 0 ≤ src ∧ src ≤ 4294967295) (hds : 0 ≤ dst ∧ dst ≤ 4294967295) (hs : 0 ≤ s ∧ s ≤ 4294967295) (hd : 0 ≤ d ∧ d ≤ 4294967295) (ha : 0 ≤ a ∧ a ≤ 65535) (hb : 0 ≤ b ∧ b ≤ 65535) (ho : ofe 47 src dst zd = 0) :
  Calls Tryz.prog 14 #[.agg #[.int .u8 tos, .int .u16 id, .bool keep, .int .u8 ttl, .int .u8 47, .int .u32 src, .int .u32 dst, so, sd], .agg #[.int .u8 47, .int .u32 s, .int .u32 d, .int .u16 a, .int .u16 b]] w fun e w' => Later w w' ∧ ∃ a7 c7 a8 n8 c8, e = .returned (.tuple #[.agg #[.int .u8 tos, .int .u16 id, .bool keep, .int .u8 ttl, .int .u8 47, .int .u32 s, .int .u32 d, .slice a7 zo.length c7, .slice a8 n8 c8], .int .i64 0]) ∧ Ow w.heap.size w' (.slice a7 zo.length c7) zo ∧ Ow w.heap.size w' (.slice a8 n8 c8) (rwR 47 s d a b os zd) := by
 obtain ⟨hf1, hf2, hf3⟩ := flt_fit2 hfl
 have HFL := hide hfl
 have HF3 := hide hf3
 have HF1 := hide hf1
 obtain ⟨ao, co, rfl, _, _⟩ := hIo.slice
 obtain ⟨ad, cd, rfl, _, _⟩ := hId.slice
 have hb0 : Below w.heap.size w (((w.alloc (.cells #[.int .u8 tos, .int .u16 id, .bool keep, .int .u8 ttl, .int .u8 47, .int .u32 src, .int .u32 dst, .slice ao zo.length co, .slice ad zd.length cd] 26)).alloc (.cells #[.int .u8 47, .int .u32 s, .int .u32 d, .int .u16 a, .int .u16 b] 29)).alloc (.cells zpk.toArray 26)) := (((Below.refl _ _).alloc (Nat.le_refl _) _).alloc (by simp) _).alloc (by simp <;> omega) _
 have p0 : (((w.alloc (.cells #[.int .u8 tos, .int .u16 id, .bool keep, .int .u8 ttl, .int .u8 47, .int .u32 src, .int .u32 dst, .slice ao zo.length co, .slice ad zd.length cd] 26)).alloc (.cells #[.int .u8 47, .int .u32 s, .int .u32 d, .int .u16 a, .int .u16 b] 29)).alloc (.cells zpk.toArray 26)).heap[w.heap.size]? = some (.cells #[.int .u8 tos, .int .u16 id, .bool keep, .int .u8 ttl, .int .u8 47, .int .u32 src, .int .u32 dst, .slice ao zo.length co, .slice ad zd.length cd] 26) := (Below.heap_alloc _ _ _ (by simp <;> omega)).trans ((Below.heap_alloc _ _ _ (by simp)).trans (heap_alloc_new w _))
 have t0 : (((w.alloc (.cells #[.int .u8 tos, .int .u16 id, .bool keep, .int .u8 ttl, .int .u8 47, .int .u32 src, .int .u32 dst, .slice ao zo.length co, .slice ad zd.length cd] 26)).alloc (.cells #[.int .u8 47, .int .u32 s, .int .u32 d, .int .u16 a, .int .u16 b] 29)).alloc (.cells zpk.toArray 26)).heap[w.heap.size + 1]? = some (.cells #[.int .u8 47, .int .u32 s, .int .u32 d, .int .u16 a, .int .u16 b] 29) := by
  have := heap_alloc_new (w.alloc (.cells #[.int .u8 tos, .int .u16 id, .bool keep, .int .u8 ttl, .int .u8 47, .int .u32 src, .int .u32 dst, .slice ao zo.length co, .slice ad zd.length cd] 26)) (.cells #[.int .u8 47, .int .u32 s, .int .u32 d, .int .u16 a, .int .u16 b] 29)
  rw [World.size_alloc] at this
  exact (Below.heap_alloc _ _ _ (by simp)).trans this
 have r0 : (((w.alloc (.cells #[.int .u8 tos, .int .u16 id, .bool keep, .int .u8 ttl, .int .u8 47, .int .u32 src, .int .u32 dst, .slice ao zo.length co, .slice ad zd.length cd] 26)).alloc (.cells #[.int .u8 47, .int .u32 s, .int .u32 d, .int .u16 a, .int .u16 b] 29)).alloc (.cells zpk.toArray 26)).heap[w.heap.size + 1 + 1]? = some (.cells zpk.toArray 26) := by
  have := heap_alloc_new ((w.alloc (.cells #[.int .u8 tos, .int .u16 id, .bool keep, .int .u8 ttl, .int .u8 47, .int .u32 src, .int .u32 dst, .slice ao zo.length co, .slice ad zd.length cd] 26)).alloc (.cells #[.int .u8 47, .int .u32 s, .int .u32 d, .int .u16 a, .int .u16 b] 29)) (.cells zpk.toArray 26)
  simpa only [World.size_alloc] using this
 have P0 := hide p0
 have T0 := hide t0
 have R0 := hide r0
 clear p0 t0 r0 hf1 hf2 hf3 hfl
 go_enter Tryz.func14, Tryz.ntmps14
 go_upto_region 1 with fail
 generalize ((w.alloc _).alloc _).alloc _ = W0 at *
 have L0 : Later w W0 := hb0
 have kP := block_cell P0.out
 have kT := block_cell T0.out
 go_upto_region 3 with fail
 go_wp2_with fail
 refine (rof_any tos id ttl 47 src dst keep _ _ zd W0 hBd (hId.later L0) (by have := HF3.out; omega) hsr hds).mono ?_
 rintro e w1 ⟨hb1, rfl⟩
 rw [ho, otv_ok]
 have hq1 : ∃ x y, ofa 47 zd = x ∧ ofb 47 zd = y := ⟨_, _, rfl, rfl⟩
 obtain ⟨x1, y1, hx1, hy1⟩ := hq1
 rw [hx1, hy1]
 clear hx1 hy1 kP kT
 have l1 : Later W0 w1 := hb1
 have la1 := later_alloc' w1 (.cells #[.int .u8 47, .int .u32 src, .int .u32 dst, .int .u16 x1, .int .u16 y1] 29)
 have m1 := l1.trans la1
 have P2 := hide (later_keep m1 P0.out)
 have T2 := hide (later_keep m1 T0.out)
 have R2 := hide (later_keep m1 R0.out)
 have L2 := L0.trans m1
 clear P0 T0 R0 l1 hb1 la1 m1 L0 hb0
 go_upto_region 6 with fail
 generalize w1.alloc _ = w2 at *
 have kP := block_cell P2.out
 have la3 := later_alloc' w2 (.cells #[.int .u8 tos, .int .u16 id, .bool keep, .int .u8 ttl, .int .u8 47, .int .u32 src, .int .u32 dst, .slice ao zo.length co, .slice ad zd.length cd] 26)
 have Q3 := hide (heap_alloc_new w2 (.cells #[.int .u8 tos, .int .u16 id, .bool keep, .int .u8 ttl, .int .u8 47, .int .u32 src, .int .u32 dst, .slice ao zo.length co, .slice ad zd.length cd] 26))
 have P3 := hide (later_keep la3 P2.out)
 have T3 := hide (later_keep la3 T2.out)
 have R3 := hide (later_keep la3 R2.out)
 have L3 := L2.trans la3
 have hgr : w.heap.size + 1 + 1 < w2.heap.size := (bl9 R2.out)
 clear P2 T2 R2 la3 L2
 go_upto_region 7 with fail
 clear kP
 generalize w2.alloc _ = w3 at *
 generalize w2.heap.size = gq at *
 refine anyT_begin (R := But (fun q => q = gq)) 8 rfl (by kernel_rfl) ?_
 have hdr : Later w3 w3.drew := Later.drew w3
 have gd := later_keep hdr Q3.out
 have td := later_keep hdr T3.out
 generalize w3.drew = wd at *
 have qT : ∀ v1, But (fun q => q = gq) wd v1 → ∀ j, v1.cell? ⟨w.heap.size + 1, j, none⟩ = (#[.int .u8 47, .int .u32 s, .int .u32 d, .int .u16 a, .int .u16 b] : Array Value)[j]? := fun v1 h => block_cell ((h.block (w.heap.size + 1) (bl9 td) (by omega)).trans td)
 refine tV (But.pre _) 0 rfl rfl ?_; apply Exists.intro; refine ⟨fun v1 hv1 => ?_, ?_⟩; (· (go_simp; rfl)); simp only [Act.put, sA, sB, sC]
 refine tV (But.pre _) 1 rfl rfl ?_; apply Exists.intro; refine ⟨fun v1 hv1 => ?_, ?_⟩; (· (go_simp; rfl)); simp only [Act.put, sA, sB, sC]
 refine tV (But.pre _) 2 rfl rfl ?_; apply Exists.intro; refine ⟨fun v1 hv1 => ?_, ?_⟩; (· (go_simp; rfl)); simp only [Act.put, sA, sB, sC]
 refine tV (But.pre _) 3 rfl rfl ?_; apply Exists.intro; refine ⟨fun v1 hv1 => ?_, ?_⟩; (· (go_simp; rfl)); simp only [Act.put, sA, sB, sC]
 clear qT td
 refine tV (But.pre _) 4 rfl rfl ?_; apply Exists.intro; refine ⟨fun v1 hv1 => ?_, ?_⟩; (· (go_simp; rfl)); simp only [Act.put, sA, sB, sC]
 have kx := block_cell gd
 have fx := block_frozen gd
 refine anyT_one 5 rfl (by kernel_rfl) rfl ?_
 unfold Oper.wp
 go_simp
 generalize hV : wd.setCell ⟨gq, 5, none⟩ _ = V7
 have gV := heap_set1 gd 5 (.int .u32 s)
 rw [hV] at gV
 have hb7 : But (fun q => q = gq) wd V7 := by rw [← hV]; exact But.setCell (E := fun q => q = gq) (But.refl _ _) (p := ⟨gq, 5, none⟩) rfl _
 refine ⟨hb7, ?_⟩
 clear hV kx fx
 simp only [List.setIfInBounds_toArray, List.set_cons_zero, List.set_cons_succ] at gV
 refine tV (But.pre _) 6 rfl rfl ?_; apply Exists.intro; refine ⟨fun v1 hv1 => ?_, ?_⟩; (· (go_simp; rfl)); simp only [Act.put, sA, sB, sC]
 have kx := block_cell gV
 have fx := block_frozen gV
 refine anyT_one 7 rfl (by kernel_rfl) rfl ?_
 unfold Oper.wp
 go_simp
 generalize hV : V7.setCell ⟨gq, 6, none⟩ _ = w4
 have gW := heap_set1 gV 6 (.int .u32 d)
 rw [hV] at gW
 have hb8 : But (fun q => q = gq) V7 w4 := by rw [← hV]; exact But.setCell (E := fun q => q = gq) (But.refl _ _) (p := ⟨gq, 6, none⟩) rfl _
 refine ⟨hb8, ?_⟩
 clear hV kx fx gV gd
 simp only [List.setIfInBounds_toArray, List.set_cons_zero, List.set_cons_succ] at gW
 refine anyT_done (by kernel_rfl) ?_
 have hbN : But (fun q => q = gq) w3 w4 := (But.of hdr).trans (hb7.trans hb8)
 clear hb7 hb8 hdr
 have Q4 := hide gW
 have P4 := hide ((hbN.block w.heap.size (bl9 P3.out) (by omega)).trans P3.out)
 have T4 := hide ((hbN.block (w.heap.size + 1) (bl9 T3.out) (by omega)).trans T3.out)
 have R4 := hide ((hbN.block (w.heap.size + 1 + 1) (bl9 R3.out) (by omega)).trans R3.out)
 have L4 : Later w w4 := Below.trans L3 (hbN.below L3.size (fun k hk e => by omega))
 clear gW hbN P3 T3 R3 Q3 L3
 have kP := block_cell P4.out
 go_upto_region 21 with fail
 go_wp2_with fail
 refine (rparseGre_any tos id ttl 47 src dst keep _ _ zd w4 hBd (hId.later L4) (by have := HF3.out; omega)).mono ?_
 rintro e w5 ⟨l5, ⟨hf, _⟩ | ⟨_, a5, c5, rfl, hOD⟩⟩
 ·exact absurd ho hf
 have HRW : Hid (rwR 47 s d a b os zd = grb b (ghs (bgz zd)) (gha (bgz zd)) (gsq (bgz zd) zd) (gak (bgz zd) zd) (zd.drop (ghd (bgz zd)))) := rfl
 obtain ⟨h8, hn3, hlz⟩ := pge_facts (show pge 47 zd = 0 from ho)
 have hlm : (zd.drop (ghd (bgz zd))).length = zd.length - ghd (bgz zd) := by rw [List.length_drop]
 have HLE : Hid ((zd.drop (ghd (bgz zd))).length ≤ zd.length) := by show _ ≤ _; rw [hlm]; omega
 have HBM := hide (hBd.drop (ghd (bgz zd)))
 have hw4 := wat_bd hBd 4
 have HSQ := hide (gsq_bdZ hBd (bgz zd))
 have HGF := hide (grf_of (bgz zd) zd)
 have HBT : Hid (flt zo.length (grn (ghs (bgz zd)) (gha (bgz zd)) (zd.drop (ghd (bgz zd))).length) = 0) := by
  show _ = _
  rw [← ghd_bgn, bgn_of hn3, hlm]
  exact flt_mono HFL.out (by omega)
 obtain ⟨k6, hk6⟩ : ∃ x, getAt2 zd 6 = x := ⟨_, rfl⟩
 rw [hk6]
 clear hlm h8 ho kP hn3 hlz hk6 hw4
 generalize ghs (bgz zd) = hs1 at *
 generalize gha (bgz zd) = ha1 at *
 generalize gsq (bgz zd) zd = sq at *
 generalize gak (bgz zd) zd = ak at *
 generalize zd.drop (ghd (bgz zd)) = zm at *
 generalize zd.length - ghd (bgz zd) = nl at *
 have la6 := later_alloc' w5 (.cells #[.int .u16 k6, .bool hs1, .bool ha1, .int .u32 sq, .int .u32 ak, .slice a5 nl c5] 68)
 have S6 := hide (heap_alloc_new w5 (.cells #[.int .u16 k6, .bool hs1, .bool ha1, .int .u32 sq, .int .u32 ak, .slice a5 nl c5] 68))
 have m6 := Later.trans l5 la6
 have Q6 := hide (later_keep m6 Q4.out)
 have T6 := hide (later_keep m6 T4.out)
 have R6 := hide (later_keep m6 R4.out)
 have L6 := L4.trans m6
 have hgs : gq < w5.heap.size := Nat.lt_of_lt_of_le (bl9 Q4.out) (Below.size l5)
 have OD6 := hide (hOD.later la6)
 clear P4 T4 R4 Q4 la6 L4 hOD m6 l5
 go_upto_region 22 with fail
 generalize w5.alloc _ = w6 at *
 generalize w5.heap.size = gs at *
 have kS := block_cell S6.out
 have fS := block_frozen S6.out
 have kT := block_cell T6.out
 have gW := heap_set1 S6.out 0 (.int .u16 b)
 have hbN : But (fun q => q = gs) w6 (w6.setCell ⟨gs, 0, none⟩ (.int .u16 b)) := But.setCell (E := fun q => q = gs) (But.refl _ _) (p := ⟨gs, 0, none⟩) rfl _
 go_upto_region 23 with fail
 clear kS fS kT
 generalize w6.setCell ⟨gs, 0, none⟩ _ = w8 at *
 simp only [List.setIfInBounds_toArray, List.set_cons_zero, List.set_cons_succ] at gW
 have S8 := hide gW
 have Q8 := hide ((hbN.block gq (bl9 Q6.out) (by omega)).trans Q6.out)
 have R8 := hide ((hbN.block (w.heap.size + 1 + 1) (bl9 R6.out) (by omega)).trans R6.out)
 have L8 : Later w w8 := Below.trans L6 (hbN.below L6.size (fun k hk e => by omega))
 have OD8 := hide (Ow.aside OD6.out S6.out (by decide) hbN)
 clear gW hbN Q6 T6 R6 S6 OD6 L6
 have kQ := block_cell Q8.out
 have kS := block_cell S8.out
 have HBU := hide (rbuildGre_any tos id ttl 47 s d b sq ak keep hs1 ha1 (.slice ao zo.length co) (.slice a5 nl c5) ad zd.length cd zo zm w8 (hIo.later L8) HBM.out OD8.out.rd (by have := HF1.out; omega) (by have := HLE.out; have := HF3.out; omega) hb HSQ.out.1 HSQ.out.2 HGF.out)
 rw [HBT.out, ← HRW.out] at HBU
 obtain ⟨n8, HN8⟩ : ∃ n, Hid (grn hs1 ha1 zm.length = n) := ⟨_, rfl⟩
 rw [HN8.out] at HBU
 clear HN8
 go_wp2_with fail
 refine HBU.out.mono ?_
 rintro e w9 ⟨l9, ⟨hf, _⟩ | ⟨_, a7, c7, a8, c8, rfl, Oo, Od⟩⟩
 ·exact absurd rfl hf
 have R9 := hide (later_keep l9 R8.out)
 have L9 : Later w w9 := L8.trans l9
 have O9 := hide (Oo.mono L8.size)
 have D9 := hide (Od.mono L8.size)
 clear kQ kS HBU Oo Od
 have kR := block_cell R9.out
 have fR := block_frozen R9.out
 go_wp2_with fail
 generalize hV : (((((((((w9.setCell ⟨w.heap.size + 1 + 1, 0, none⟩ _).setCell ⟨w.heap.size + 1 + 1, 1, none⟩ _).setCell ⟨w.heap.size + 1 + 1, 2, none⟩ _).setCell ⟨w.heap.size + 1 + 1, 3, none⟩ _).setCell ⟨w.heap.size + 1 + 1, 4, none⟩ _).setCell ⟨w.heap.size + 1 + 1, 5, none⟩ _).setCell ⟨w.heap.size + 1 + 1, 6, none⟩ _).setCell ⟨w.heap.size + 1 + 1, 7, none⟩ _).setCell ⟨w.heap.size + 1 + 1, 8, none⟩ _) = V
 have hV9 : V = putRow w9 (w.heap.size + 1 + 1) 0 [.int .u8 tos, .int .u16 id, .bool keep, .int .u8 ttl, .int .u8 47, .int .u32 s, .int .u32 d, .slice a7 zo.length c7, .slice a8 n8 c8] := hV.symm
 have hbV : But (fun q => q = w.heap.size + 1 + 1) w9 V := by rw [hV9]; exact putRow_but (E := fun q => q = w.heap.size + 1 + 1) (n := w.heap.size + 1 + 1) rfl _ _ _ _ (But.refl _ _)
 have pV := putRow_all [.int .u8 tos, .int .u16 id, .bool keep, .int .u8 ttl, .int .u8 47, .int .u32 s, .int .u32 d, .slice a7 zo.length c7, .slice a8 n8 c8] R9.out rfl
 rw [← hV9] at pV
 clear hV hV9 kR fR
 have PV := block_cell pV
 have hwV : Later w V := Below.trans L9 (hbV.below L9.size (fun k hk e => by omega))
 exact bodyPost_ret (v := .tuple #[.agg #[.int .u8 tos, .int .u16 id, .bool keep, .int .u8 ttl, .int .u8 47, .int .u32 s, .int .u32 d, .slice a7 zo.length c7, .slice a8 n8 c8], .int .i64 0]) (by simp [results, Tryz.results14, go_sem, PV]) rfl ⟨hwV, _, _, _, _, _, rfl, Ow.aside O9.out R9.out (by decide) hbV, Ow.aside D9.out R9.out (by decide) hbV⟩

theorem rrw_any (pr tos id ttl src dst : Int) (keep : Bool) (so sd : Value) (zo zd : List Int) (s d a b : Int) (os : List Opt) (w : World) (hBo : Mt.By zo) (hBd : Mt.By zd) (hIo : Rd w.heap.size w so zo) (hId : Rd w.heap.size w sd zd) (hfl : flt zo.length zd.length = 0)
  (hsr : 0 ≤ src ∧ src ≤ 4294967295) (hds : 0 ≤ dst ∧ dst ≤ 4294967295) (hs : 0 ≤ s ∧ s ≤ 4294967295) (hd : 0 ≤ d ∧ d ≤ 4294967295) (ha : 0 ≤ a ∧ a ≤ 65535) (hb : 0 ≤ b ∧ b ≤ 65535) (ho : ofe pr src dst zd = 0) (hok : pok pr) (hos : pr = 6 → opts (hop zd) = some os) :
  Calls Tryz.prog 14 #[.agg #[.int .u8 tos, .int .u16 id, .bool keep, .int .u8 ttl, .int .u8 pr, .int .u32 src, .int .u32 dst, so, sd], .agg #[.int .u8 pr, .int .u32 s, .int .u32 d, .int .u16 a, .int .u16 b]] w fun e w' => Later w w' ∧ ∃ a7 c7 a8 n8 c8, e = .returned (.tuple #[.agg #[.int .u8 tos, .int .u16 id, .bool keep, .int .u8 ttl, .int .u8 pr, .int .u32 s, .int .u32 d, .slice a7 zo.length c7, .slice a8 n8 c8], .int .i64 0]) ∧ Ow w.heap.size w' (.slice a7 zo.length c7) zo ∧ Ow w.heap.size w' (.slice a8 n8 c8) (rwR pr s d a b os zd) := by
 rcases hok with rfl | rfl | rfl | rfl
 ·exact rrw_tcp tos id ttl src dst keep so sd zo zd s d a b os w hBo hBd hIo hId hfl hsr hds hs hd ha hb ho (hos rfl)
 ·exact rrw_udp tos id ttl src dst keep so sd zo zd s d a b os w hBo hBd hIo hId hfl hsr hds hs hd ha hb ho
 ·exact rrw_icmp tos id ttl src dst keep so sd zo zd s d a b os w hBo hBd hIo hId hfl hsr hds hs hd ha hb ho
 ·exact rrw_gre tos id ttl src dst keep so sd zo zd s d a b os w hBo hBd hIo hId hfl hsr hds hs hd ha hb ho
end Go.Proofs.YtghpakfjpdifaaaGreatDoor

/- A header of any flags and any check sum: what read tells of it. -/
namespace Go.Proofs.YtghpakfjpdifaaaGreatDoor
open Go.RowKit Go.Shelf
set_option maxRecDepth 100000
set_option linter.unusedVariables false
set_option linter.unusedSimpArgs false

/-- The twenty bytes of a header with f for its flags and s for its check sum. -/
def g20 (tos id f ttl proto src dst : Int) (lo : Nat) (all s : Int) : List Int :=
 [64 + (20 + (lo : Int)) / 4, tos, all / 256, all % 256, id / 256, id % 256, f / 256, f % 256, ttl, proto, s / 256, s % 256,
  src / 65536 / 256, src / 65536 % 256, src % 65536 / 256, src % 65536 % 256, dst / 65536 / 256, dst / 65536 % 256, dst % 65536 / 256, dst % 65536 % 256]
theorem g20_of (tos id : Int) (keep : Bool) (ttl proto src dst : Int) (lo : Nat) (all s : Int) : h20 tos id keep ttl proto src dst lo all s = g20 tos id (if keep then 16384 else 0) ttl proto src dst lo all s := by
 unfold h20 g20; cases keep <;> rfl
theorem g20_by (tos id f ttl proto src dst : Int) (lo : Nat) (all s : Int) (hl : lo ≤ 40) (ht : 0 ≤ tos ∧ tos ≤ 255) (hid : 0 ≤ id ∧ id ≤ 65535) (hf : 0 ≤ f ∧ f ≤ 65535) (htt : 0 ≤ ttl ∧ ttl ≤ 255) (hpr : 0 ≤ proto ∧ proto ≤ 255) (hsr : 0 ≤ src ∧ src ≤ 4294967295) (hds : 0 ≤ dst ∧ dst ≤ 4294967295) (hal : 0 ≤ all ∧ all ≤ 65535) (hs : 0 ≤ s ∧ s ≤ 65535) : Mt.By (g20 tos id f ttl proto src dst lo all s) := by
 unfold g20
 intro z hz
 simp only [List.mem_cons, List.not_mem_nil, or_false] at hz
 rcases hz with h | h | h | h | h | h | h | h | h | h | h | h | h | h | h | h | h | h | h | h <;> subst h <;> omega

section
variable (tos id f ttl proto src dst : Int) (zo zd : List Int) (all s : Int)
end

end Go.Proofs.YtghpakfjpdifaaaGreatDoor

/- Bytes that read takes: what they are; the header that is built of what they tell has the same bytes. -/
namespace Go.Proofs.YtghpakfjpdifaaaGreatDoor
open Go.RowKit Go.Shelf
set_option maxRecDepth 100000
set_option linter.unusedVariables false
set_option linter.unusedSimpArgs false

theorem rde_zero {q : Bool} {zs : List Int} (h : rde q zs = 0) : msr zs = 0 ∧ ral q zs ≤ zs.length ∧ chk zs = 0 := by
 unfold rde at h
 split at h
 ·rename_i h1; exact absurd h h1
 ·rename_i h1
  split at h
  ·omega
  ·split at h
   ·rename_i h3; exact absurd h h3
   ·rename_i h2 h3
    exact ⟨by simpa using h1, by omega, by simpa using h3⟩
end Go.Proofs.YtghpakfjpdifaaaGreatDoor
