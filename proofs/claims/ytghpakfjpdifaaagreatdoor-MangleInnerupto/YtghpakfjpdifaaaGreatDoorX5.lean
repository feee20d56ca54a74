/- Several texts in one. -/
import Derived.Test.YtghpakfjpdifaaaGreatDoorX6
import Derived.Lib.AppendZeros
import Derived.Deep.Cut
import Derived.Test.YtghpakfjpdifaaaGreatDoorRt
import Derived.Test.YtghpakfjpdifaaaGreatDoorCA
import Derived.Test.YtghpakfjpdifaaaGreatDoorX7
import Derived.Test.YtghpakfjpdifaaaGreatDoorW9
import Derived.Test.YtghpakfjpdifaaaGreatDoorVS
import Derived.Test.YtghpakfjpdifaaaGreatDoorHd
/- Package mangle: what is done of each protocol. -/
namespace Go.Proofs.YtghpakfjpdifaaaGreatDoor
open Go.RowKit Go.Shelf
set_option maxRecDepth 100000
set_option linter.unusedVariables false
set_option linter.unusedSimpArgs false

/-- Numbers of a unit's tuples are of their kinds. -/
def UOk (u : Un) : Prop := (0 ≤ u.s ∧ u.s ≤ 4294967295) ∧ (0 ≤ u.d ∧ u.d ≤ 4294967295) ∧ (0 ≤ u.a ∧ u.a ≤ 65535) ∧ (0 ≤ u.b ∧ u.b ≤ 65535)

set_option maxHeartbeats 2000000 in
theorem usegment_any (base : Nat) (g : Nat) (u : Un) (zs : List Int) (w : World) (hB : Mt.By zs) (h : UR w g u zs) (hb : base ≤ w.heap.size) (hl : 12 + zs.length ≤ 140737488355328) (h20 : 20 ≤ zs.length) (hu : UOk u) (hpr : u.pr = 6) :
  Calls Tryz.prog 96 #[.pointer (some ⟨g, 0, none⟩)] w fun e w' => UQ base w g u (rwT u.s u.d u.a u.b zs) e w' := by
 obtain ⟨hs, hd, ha, hbb⟩ := hu
 have H1 := hide (uports_any base g u zs w h hb (by omega) (by omega) ha hbb)
 have hB1 := prt_by hB ha hbb
 have hB2 := hB1.put2 16 (v := 0) (by omega)
 have hL1 := prt_length u.a u.b zs
 have hL2 : (Mt.put2 (prt u.a u.b zs) 16 0).length = zs.length := by rw [Mt.put2_length, hL1]
 have HR : Hid (rwT u.s u.d u.a u.b zs = Mt.put2 (Mt.put2 (prt u.a u.b zs) 16 0) 16 (Mt.cks (psd u.s u.d u.pr (Mt.put2 (prt u.a u.b zs) 16 0).length ++ Mt.put2 (prt u.a u.b zs) 16 0))) := by show _ = _; rw [hL2, hpr]; rfl
 have HPR : Hid (0 ≤ u.pr ∧ u.pr ≤ 255) := by show _ ∧ _; omega
 clear hpr
 have HE := hide (putAt2_lit (prt u.a u.b zs) 16 16 0 rfl (by omega))
 have HE2 := hide (fun v => putAt2_lit (Mt.put2 (prt u.a u.b zs) 16 0) 16 16 v rfl (by omega))
 generalize prt u.a u.b zs = z1 at *
 generalize Mt.put2 z1 16 0 = z2 at *
 have hl1 : z1.length ≤ 140737488355328 := by omega
 have hl2 : 12 + z2.length ≤ 140737488355328 := by omega
 have HL2 := hide hL2
 clear hL1 hL2
 go_enter Tryz.func96, Tryz.ntmps96
 go_wp2_with fail
 refine H1.out.mono ?_
 rintro e w1 ⟨rfl, S1, b1⟩
 go_wp2_with fail
 refine (uput_any base g u z1 16 0 w1 S1.ur (Nat.le_trans hb b1.size) hl1 (by omega)).mono ?_
 rw [HE.out]
 rintro e w2 ⟨rfl, S2, b2⟩
 go_wp2_with fail
 refine (usummed_any g u z2 w2 S2.ur hl2 hs hd).mono ?_
 rintro e w3 ⟨a3, c3, rfl, hO3, l3⟩
 have hBs := (By_psd u.s u.d u.pr z2.length hs hd HPR.out).append hB2
 go_wp2_with fail
 refine (sum_any _ _ hBs (by rw [List.length_append, psd_length]; omega) w3 hO3.rd).mono ?_
 rintro e w4 ⟨rfl, l4⟩
 have l4' : Later w3 w4 := l4
 have hc := Mt.cks_bd (psd u.s u.d u.pr z2.length ++ z2)
 have S4 := (S2.later l3).later l4'
 generalize Mt.cks (psd u.s u.d u.pr z2.length ++ z2) = ck at *
 go_wp2_with fail
 refine (uput_any base g u z2 16 _ w4 S4.ur (Nat.le_trans hb (Nat.le_trans b1.size (Nat.le_trans b2.size (l3.trans l4').size))) (by omega) hc).mono ?_
 rw [HE2.out, ← HR.out]
 rintro e w5 ⟨rfl, S5, b5⟩
 go_wp2_with fail
 go_end0
 exact ⟨rfl, S5, b1.trans (b2.trans ((But.of (l3.trans l4')).trans b5))⟩

set_option maxHeartbeats 2000000 in
theorem udatagram_any (base : Nat) (g : Nat) (u : Un) (zs : List Int) (w : World) (hB : Mt.By zs) (h : UR w g u zs) (hb : base ≤ w.heap.size) (hl : 12 + zs.length ≤ 140737488355328) (h8 : 8 ≤ zs.length) (hu : UOk u) (hpr : u.pr = 17) :
  Calls Tryz.prog 97 #[.pointer (some ⟨g, 0, none⟩)] w fun e w' => UQ base w g u (rwU u.s u.d u.a u.b zs) e w' := by
 obtain ⟨hs, hd, ha, hbb⟩ := hu
 have H1 := hide (uports_any base g u zs w h hb (by omega) (by omega) ha hbb)
 have hB1 := prt_by hB ha hbb
 have hB2 := hB1.put2 6 (v := 0) (by omega)
 have hL1 := prt_length u.a u.b zs
 have hL2 : (Mt.put2 (prt u.a u.b zs) 6 0).length = zs.length := by rw [Mt.put2_length, hL1]
 have H6 : Hid (getAt2 (prt u.a u.b zs) 6 = wat zs 6) := by
  show _ = _
  rw [getAt2_lit _ 6 6 rfl (by omega)]
  exact wat_same (prt_other _ _ _ _ (by omega)) (prt_other _ _ _ _ (by omega))
 have HR : Hid (rwU u.s u.d u.a u.b zs = if wat zs 6 = 0 then prt u.a u.b zs else Mt.put2 (Mt.put2 (prt u.a u.b zs) 6 0) 6 (nbr (Mt.cks (psd u.s u.d u.pr (Mt.put2 (prt u.a u.b zs) 6 0).length ++ Mt.put2 (prt u.a u.b zs) 6 0)))) := by show _ = _; rw [hL2, hpr]; rfl
 have HPR : Hid (0 ≤ u.pr ∧ u.pr ≤ 255) := by show _ ∧ _; omega
 clear hpr
 have HE := hide (putAt2_lit (prt u.a u.b zs) 6 6 0 rfl (by omega))
 have HE2 := hide (fun v => putAt2_lit (Mt.put2 (prt u.a u.b zs) 6 0) 6 6 v rfl (by omega))
 generalize rwU u.s u.d u.a u.b zs = zr at *
 generalize prt u.a u.b zs = z1 at *
 generalize Mt.put2 z1 6 0 = z2 at *
 have hl1 : z1.length ≤ 140737488355328 := by omega
 have hl2 : 12 + z2.length ≤ 140737488355328 := by omega
 clear hL1 hL2
 go_enter Tryz.func97, Tryz.ntmps97
 go_wp2_with fail
 refine H1.out.mono ?_
 rintro e w1 ⟨rfl, S1, b1⟩
 go_wp2_with fail
 refine (ubare_any g u z1 hB1 w1 S1.ur).mono ?_
 rw [H6.out]
 rintro e w2 ⟨rfl, l2⟩
 have S2 := S1.later l2
 have b2 : But (fun q => q = g) w w2 := b1.trans (But.of l2)
 by_cases c0 : wat zs 6 = 0
 ·have t0 : (wat zs 6 == 0) = true := by simp [c0]
  have HZ : Hid (zr = z1) := by show _ = _; rw [HR.out, if_pos c0]
  clear c0
  go_wp2_with fail
  go_end0
  exact ⟨rfl, by rw [HZ.out]; exact S2, b2⟩
 have t0 : (wat zs 6 == 0) = false := by simp [c0]
 have HZ : Hid (zr = Mt.put2 z2 6 (nbr (Mt.cks (psd u.s u.d u.pr z2.length ++ z2)))) := by show _ = _; rw [HR.out, if_neg c0]
 clear c0
 go_wp2_with fail
 refine (uput_any base g u z1 6 0 w2 S2.ur (Nat.le_trans hb b2.size) hl1 (by omega)).mono ?_
 rw [HE.out]
 rintro e w3 ⟨rfl, S3, b3⟩
 go_wp2_with fail
 refine (usummed_any g u z2 w3 S3.ur hl2 hs hd).mono ?_
 rintro e w4 ⟨a4, c4, rfl, hO4, l4⟩
 have hBs := (By_psd u.s u.d u.pr z2.length hs hd HPR.out).append hB2
 go_wp2_with fail
 refine (sum_any _ _ hBs (by rw [List.length_append, psd_length]; omega) w4 hO4.rd).mono ?_
 rintro e w5 ⟨rfl, l5⟩
 have l5' : Later w4 w5 := l5
 have S5 := (S3.later l4).later l5'
 have hc := nbr_bd (Mt.cks_bd (psd u.s u.d u.pr z2.length ++ z2))
 generalize Mt.cks (psd u.s u.d u.pr z2.length ++ z2) = ck at *
 go_wp2_with fail
 refine (notBare_any _ w5).mono ?_
 rintro e w6 ⟨rfl, rfl⟩
 go_wp2_with fail
 refine (uput_any base g u z2 6 _ w6 S5.ur (Nat.le_trans hb (Nat.le_trans b2.size (Nat.le_trans b3.size (l4.trans l5').size))) (by omega) (by omega)).mono ?_
 rw [HE2.out, ← HZ.out]
 rintro e w7 ⟨rfl, S7, b7⟩
 go_wp2_with fail
 go_end0
 exact ⟨rfl, S7, b2.trans (b3.trans ((But.of (l4.trans l5')).trans b7))⟩

set_option maxHeartbeats 2000000 in
theorem umessage_any (base : Nat) (g : Nat) (u : Un) (zs : List Int) (w : World) (hB : Mt.By zs) (h : UR w g u zs) (hb : base ≤ w.heap.size) (hl : zs.length ≤ 140737488355328) (h8 : 8 ≤ zs.length) (hu : UOk u) :
  Calls Tryz.prog 98 #[.pointer (some ⟨g, 0, none⟩)] w fun e w' => UQ base w g u (rwI u.a zs) e w' := by
 obtain ⟨hs, hd, ha, hbb⟩ := hu
 have H1 := hide (uput_any base g u zs 4 u.a w h hb hl ha)
 rw [putAt2_lit zs 4 4 u.a rfl (by omega)] at H1
 have hB1 := hB.put2 4 ha
 have hB2 := hB1.put2 2 (v := 0) (by omega)
 have hL1 := Mt.put2_length zs 4 u.a
 have hL2 := Mt.put2_length (Mt.put2 zs 4 u.a) 2 0
 have HR : Hid (rwI u.a zs = Mt.put2 (Mt.put2 (Mt.put2 zs 4 u.a) 2 0) 2 (Mt.cks (Mt.put2 (Mt.put2 zs 4 u.a) 2 0))) := rfl
 have HE := hide (putAt2_lit (Mt.put2 zs 4 u.a) 2 2 0 rfl (by omega))
 have HE2 := hide (fun v => putAt2_lit (Mt.put2 (Mt.put2 zs 4 u.a) 2 0) 2 2 v rfl (by omega))
 generalize Mt.put2 zs 4 u.a = z1 at *
 generalize Mt.put2 z1 2 0 = z2 at *
 have hl1 : z1.length ≤ 140737488355328 := by omega
 have hl2 : z2.length ≤ 140737488355328 := by omega
 clear hL1 hL2
 obtain ⟨bv, hU, _⟩ := id h
 have CU := block_cell hU
 simp only [unc] at CU
 go_enter Tryz.func98, Tryz.ntmps98
 go_wp2_with fail
 refine H1.out.mono ?_
 rintro e w1 ⟨rfl, S1, b1⟩
 clear CU hU
 go_wp2_with fail
 refine (uput_any base g u z1 2 0 w1 S1.ur (Nat.le_trans hb b1.size) hl1 (by omega)).mono ?_
 rw [HE.out]
 rintro e w2 ⟨rfl, S2, b2⟩
 obtain ⟨bv2, hU2, hO2⟩ := id S2
 obtain ⟨a2, c2, rfl, _, _⟩ := hO2.slice
 have C2 := block_cell hU2
 simp only [unc] at C2
 go_wp2_with fail
 refine (sum_any _ _ hB2 hl2 w2 hO2.rd).mono ?_
 rintro e w3 ⟨rfl, l3⟩
 have l3' : Later w2 w3 := l3
 have S3 := S2.later l3'
 have hc := Mt.cks_bd z2
 clear C2 hU2 hO2
 go_wp2_with fail
 refine (uput_any base g u z2 2 _ w3 S3.ur (Nat.le_trans hb (Nat.le_trans b1.size (Nat.le_trans b2.size l3'.size))) hl2 hc).mono ?_
 rw [HE2.out, ← HR.out]
 rintro e w4 ⟨rfl, S4, b4⟩
 go_wp2_with fail
 go_end0
 exact ⟨rfl, S4, b1.trans (b2.trans ((But.of l3').trans b4))⟩

set_option maxHeartbeats 2000000 in
theorem uframe_any (base : Nat) (g : Nat) (u : Un) (zs : List Int) (w : World) (h : UR w g u zs) (hb : base ≤ w.heap.size) (hl : zs.length ≤ 140737488355328) (h8 : 8 ≤ zs.length) (hu : UOk u) :
  Calls Tryz.prog 88 #[.pointer (some ⟨g, 0, none⟩)] w fun e w' => UQ base w g u (rwG u.b zs) e w' := by
 obtain ⟨hs, hd, ha, hbb⟩ := hu
 have H1 := hide (uput_any base g u zs 6 u.b w h hb hl hbb)
 rw [putAt2_lit zs 6 6 u.b rfl (by omega)] at H1
 obtain ⟨bv, hU, _⟩ := id h
 have CU := block_cell hU
 simp only [unc] at CU
 go_enter Tryz.func88, Tryz.ntmps88
 go_wp2_with fail
 refine H1.out.mono ?_
 rintro e w1 ⟨rfl, S1, b1⟩
 go_wp2_with fail
 go_end0
 exact ⟨rfl, S1, b1⟩
end Go.Proofs.YtghpakfjpdifaaaGreatDoor

/- Package mangle: what is done of each protocol with what is quoted. -/
namespace Go.Proofs.YtghpakfjpdifaaaGreatDoor
open Go.RowKit Go.Shelf
set_option maxRecDepth 100000
set_option linter.unusedVariables false
set_option linter.unusedSimpArgs false

/-- A check sum when a word changes; when several do. -/
def ptv (s o n : Int) : Int := 65535 - Mt.fd (65535 - s + (65535 - o) + n)
theorem ptv_bd (s o n : Int) : 0 ≤ ptv s o n ∧ ptv s o n ≤ 65535 := by have := Mt.fd_bd (65535 - s + (65535 - o) + n); unfold ptv; omega
def pk (o n : List Int) (c : Int) : Nat → Int
 | 0 => c
 | k + 1 => ptv (pk o n c k) (o.getD k 0) (n.getD k 0)
theorem pk_bd (o n : List Int) (c : Int) (hc : 0 ≤ c ∧ c ≤ 65535) : ∀ k, 0 ≤ pk o n c k ∧ pk o n c k ≤ 65535
 | 0 => hc
 | k + 1 => ptv_bd _ _ _
def wd6 (s d a b : Int) : List Int := [s / 65536, s % 65536, d / 65536, d % 65536, a, b]
def ptch (u : Un) (c : Int) : Int := pk (wd6 u.s1 u.d1 u.a1 u.b1) (wd6 u.s u.d u.a u.b) c 6
theorem ptch_bd (u : Un) (c : Int) : 0 ≤ ptch u c ∧ ptch u c ≤ 65535 := ptv_bd _ _ _

set_option maxHeartbeats 2000000 in
theorem words6_any (tp s d a b : Int) (hs : 0 ≤ s ∧ s ≤ 4294967295) (hd : 0 ≤ d ∧ d ≤ 4294967295) (w : World) :
  Calls Tryz.prog 127 #[.agg #[.int .u8 tp, .int .u32 s, .int .u32 d, .int .u16 a, .int .u16 b]] w fun e w' => e = .returned (.agg #[.int .u16 (s / 65536), .int .u16 (s % 65536), .int .u16 (d / 65536), .int .u16 (d % 65536), .int .u16 a, .int .u16 b]) ∧ Later w w' := by
 have e1 : IntKind.u16.wrap (s / 65536) = s / 65536 := by rw [IntKind.wrap_u16]; omega
 have e2 : IntKind.u16.wrap (d / 65536) = d / 65536 := by rw [IntKind.wrap_u16]; omega
 go_enter Tryz.func127, Tryz.ntmps127
 go_wp2_with fail
 exact bodyPost_ret (v := .agg #[.int .u16 (s / 65536), .int .u16 (s % 65536), .int .u16 (d / 65536), .int .u16 (d % 65536), .int .u16 a, .int .u16 b]) (by simp [results, Tryz.results127, go_sem]; constructor <;> rw [IntKind.wrap_u16]) rfl ⟨rfl, ((Below.refl _ _).alloc (Nat.le_refl _) _).alloc (by simp) _⟩

/-- Numbers of the tuple that was are of their kinds. -/
def UOw (u : Un) : Prop := (0 ≤ u.s1 ∧ u.s1 ≤ 4294967295) ∧ (0 ≤ u.d1 ∧ u.d1 ≤ 4294967295) ∧ (0 ≤ u.a1 ∧ u.a1 ≤ 65535) ∧ (0 ≤ u.b1 ∧ u.b1 ≤ 65535)

theorem later_alloc9 (w : World) (o : Obj) : Later w (w.alloc o) := (Below.refl _ _).alloc (Nat.le_refl _) _

set_option maxHeartbeats 8000000 in
theorem upatched_any (g : Nat) (u : Un) (bv : Value) (c : Int) (w : World) (hU : UB w g u bv) (hc0 : 0 ≤ c ∧ c ≤ 65535) (hu : UOk u) (hw : UOw u) :
  Calls Tryz.prog 112 #[.pointer (some ⟨g, 0, none⟩), .int .u16 c] w fun e w' => e = .returned (.int .u16 (ptch u c)) ∧ Later w w' := by
 obtain ⟨hs, hd, ha, hb⟩ := hu
 obtain ⟨hs1, hd1, ha1, hb1⟩ := hw
 have HP : Hid (ptch u c = pk (wd6 u.s1 u.d1 u.a1 u.b1) (wd6 u.s u.d u.a u.b) c 6) := rfl
 have CU := block_cell hU
 simp only [unc] at CU
 go_enter Tryz.func112, Tryz.ntmps112
 go_wp2_with fail
 refine (words6_any u.pr u.s u.d u.a u.b hs hd w).mono ?_
 rintro e w1 ⟨rfl, l1⟩
 obtain ⟨o, ho⟩ : ∃ o, wd6 u.s1 u.d1 u.a1 u.b1 = o := ⟨_, rfl⟩
 obtain ⟨n, hn⟩ : ∃ n, wd6 u.s u.d u.a u.b = n := ⟨_, rfl⟩
 obtain ⟨n0, e0, hn0⟩ : ∃ z, u.s / 65536 = z ∧ 0 ≤ z ∧ z ≤ 65535 := ⟨_, rfl, by omega, by omega⟩
 obtain ⟨n1, e1, hn1⟩ : ∃ z, u.s % 65536 = z ∧ 0 ≤ z ∧ z ≤ 65535 := ⟨_, rfl, by omega, by omega⟩
 obtain ⟨n2, e2, hn2⟩ : ∃ z, u.d / 65536 = z ∧ 0 ≤ z ∧ z ≤ 65535 := ⟨_, rfl, by omega, by omega⟩
 obtain ⟨n3, e3, hn3⟩ : ∃ z, u.d % 65536 = z ∧ 0 ≤ z ∧ z ≤ 65535 := ⟨_, rfl, by omega, by omega⟩
 have hn4 := ha
 have hn5 := hb
 obtain ⟨o0, f0, ho0⟩ : ∃ z, u.s1 / 65536 = z ∧ 0 ≤ z ∧ z ≤ 65535 := ⟨_, rfl, by omega, by omega⟩
 obtain ⟨o1, f1, ho1⟩ : ∃ z, u.s1 % 65536 = z ∧ 0 ≤ z ∧ z ≤ 65535 := ⟨_, rfl, by omega, by omega⟩
 obtain ⟨o2, f2, ho2⟩ : ∃ z, u.d1 / 65536 = z ∧ 0 ≤ z ∧ z ≤ 65535 := ⟨_, rfl, by omega, by omega⟩
 obtain ⟨o3, f3, ho3⟩ : ∃ z, u.d1 % 65536 = z ∧ 0 ≤ z ∧ z ≤ 65535 := ⟨_, rfl, by omega, by omega⟩
 have ho4 := ha1
 have ho5 := hb1
 have hoL : o = [o0, o1, o2, o3, u.a1, u.b1] := by rw [← ho, ← f0, ← f1, ← f2, ← f3]; rfl
 have hnL : n = [n0, n1, n2, n3, u.a, u.b] := by rw [← hn, ← e0, ← e1, ← e2, ← e3]; rfl
 have HW1 := hide (fun v => words6_any u.p1 u.s1 u.d1 u.a1 u.b1 hs1 hd1 v)
 rw [f0, f1, f2, f3] at HW1
 rw [ho, hn] at HP
 rw [e0, e1, e2, e3]
 have l2 := later_alloc9 w1 (.cells #[.int .u16 n0, .int .u16 n1, .int .u16 n2, .int .u16 n3, .int .u16 u.a, .int .u16 u.b] 154)
 have rI := heap_alloc_new w1 (.cells #[.int .u16 n0, .int .u16 n1, .int .u16 n2, .int .u16 n3, .int .u16 u.a, .int .u16 u.b] 154)
 have RI := hide rI
 have hU1 := hU.later (l1.trans l2)
 clear CU ho hn e0 e1 e2 e3 f0 f1 f2 f3 rI
 go_upto_region 2 with fail
 generalize w1.alloc _ = w2 at *
 have C2 := block_cell hU1
 simp only [unc] at C2
 go_wp2_with fail
 refine (HW1.out w2).mono ?_
 rintro e w3 ⟨rfl, l3⟩
 have RI3 := hide ((l3.block w1.heap.size (bl9 RI.out)).trans RI.out)
 have L3 : Later w w3 := l1.trans (l2.trans l3)
 have HOL := hide hoL
 have HNL := hide hnL
 clear C2 hU1 hU RI HW1 hoL hnL
 generalize w1.heap.size = ib at *
 go_wp2_with fail
 go_loopw [1, 18] (fun cv iv wr => ∃ k : Nat, k ≤ 6 ∧ iv = .int .i64 (k : Int) ∧ cv = .int .u16 (pk o n c k) ∧ Later w wr ∧ wr.heap[ib]? = some (.cells #[.int .u16 n0, .int .u16 n1, .int .u16 n2, .int .u16 n3, .int .u16 u.a, .int .u16 u.b] 154 (0, 0))) (fun _ iv _ => 6 - (intOf iv).toNat)
 case atStart => exact ⟨0, by omega, rfl, rfl, L3, RI3.out⟩
 case round =>
  obtain ⟨k, hk6, rfl, rfl, lr, hbr⟩ := hrel
  have kb := block_cell hbr
  have hoL := HOL.out
  have hnL := HNL.out
  subst hoL hnL
  have hcase : k = 6 ∨ k = 0 ∨ k = 1 ∨ k = 2 ∨ k = 3 ∨ k = 4 ∨ k = 5 := by omega
  rcases hcase with rfl | rfl | rfl | rfl | rfl | rfl | rfl
  ·go_wp2_with fail
   go_ret
   exact ⟨by rw [HP.out]; rfl, lr⟩
  ·-- 0
   have hix : ∀ W : World, (Instr.index 154 (.agg #[.int .u16 o0, .int .u16 o1, .int .u16 o2, .int .u16 o3, .int .u16 u.a1, .int .u16 u.b1]) (.int .i64 0)).run Tryz.prog W = .ok (.int .u16 o0) W := fun W => by kernel_rfl
   have hc := pk_bd [o0, o1, o2, o3, u.a1, u.b1] [n0, n1, n2, n3, u.a, u.b] c hc0 0
   have HN : Hid (pk [o0, o1, o2, o3, u.a1, u.b1] [n0, n1, n2, n3, u.a, u.b] c 1 = ptv (pk [o0, o1, o2, o3, u.a1, u.b1] [n0, n1, n2, n3, u.a, u.b] c 0) ([o0, o1, o2, o3, u.a1, u.b1].getD 0 0) ([n0, n1, n2, n3, u.a, u.b].getD 0 0)) := rfl
   generalize pk [o0, o1, o2, o3, u.a1, u.b1] [n0, n1, n2, n3, u.a, u.b] c 0 = ck at *
   go_wp2_with fail
   refine (patch_any ck o0 n0 wr hc ho0 hn0).mono ?_
   rintro e w5 ⟨rfl, rfl⟩
   go_wp2_with fail
   go_roundw
   case rel => exact ⟨1, by omega, by go_num, by rw [HN.out]; rfl, lr, hbr⟩
   case measure => simp [intOf]
  ·-- 1
   have hix : ∀ W : World, (Instr.index 154 (.agg #[.int .u16 o0, .int .u16 o1, .int .u16 o2, .int .u16 o3, .int .u16 u.a1, .int .u16 u.b1]) (.int .i64 1)).run Tryz.prog W = .ok (.int .u16 o1) W := fun W => by kernel_rfl
   have hc := pk_bd [o0, o1, o2, o3, u.a1, u.b1] [n0, n1, n2, n3, u.a, u.b] c hc0 1
   have HN : Hid (pk [o0, o1, o2, o3, u.a1, u.b1] [n0, n1, n2, n3, u.a, u.b] c 2 = ptv (pk [o0, o1, o2, o3, u.a1, u.b1] [n0, n1, n2, n3, u.a, u.b] c 1) ([o0, o1, o2, o3, u.a1, u.b1].getD 1 0) ([n0, n1, n2, n3, u.a, u.b].getD 1 0)) := rfl
   generalize pk [o0, o1, o2, o3, u.a1, u.b1] [n0, n1, n2, n3, u.a, u.b] c 1 = ck at *
   go_wp2_with fail
   refine (patch_any ck o1 n1 wr hc ho1 hn1).mono ?_
   rintro e w5 ⟨rfl, rfl⟩
   go_wp2_with fail
   go_roundw
   case rel => exact ⟨2, by omega, by go_num, by rw [HN.out]; rfl, lr, hbr⟩
   case measure => simp [intOf]
  ·-- 2
   have hix : ∀ W : World, (Instr.index 154 (.agg #[.int .u16 o0, .int .u16 o1, .int .u16 o2, .int .u16 o3, .int .u16 u.a1, .int .u16 u.b1]) (.int .i64 2)).run Tryz.prog W = .ok (.int .u16 o2) W := fun W => by kernel_rfl
   have hc := pk_bd [o0, o1, o2, o3, u.a1, u.b1] [n0, n1, n2, n3, u.a, u.b] c hc0 2
   have HN : Hid (pk [o0, o1, o2, o3, u.a1, u.b1] [n0, n1, n2, n3, u.a, u.b] c 3 = ptv (pk [o0, o1, o2, o3, u.a1, u.b1] [n0, n1, n2, n3, u.a, u.b] c 2) ([o0, o1, o2, o3, u.a1, u.b1].getD 2 0) ([n0, n1, n2, n3, u.a, u.b].getD 2 0)) := rfl
   generalize pk [o0, o1, o2, o3, u.a1, u.b1] [n0, n1, n2, n3, u.a, u.b] c 2 = ck at *
   go_wp2_with fail
   refine (patch_any ck o2 n2 wr hc ho2 hn2).mono ?_
   rintro e w5 ⟨rfl, rfl⟩
   go_wp2_with fail
   go_roundw
   case rel => exact ⟨3, by omega, by go_num, by rw [HN.out]; rfl, lr, hbr⟩
   case measure => simp [intOf]
  ·-- 3
   have hix : ∀ W : World, (Instr.index 154 (.agg #[.int .u16 o0, .int .u16 o1, .int .u16 o2, .int .u16 o3, .int .u16 u.a1, .int .u16 u.b1]) (.int .i64 3)).run Tryz.prog W = .ok (.int .u16 o3) W := fun W => by kernel_rfl
   have hc := pk_bd [o0, o1, o2, o3, u.a1, u.b1] [n0, n1, n2, n3, u.a, u.b] c hc0 3
   have HN : Hid (pk [o0, o1, o2, o3, u.a1, u.b1] [n0, n1, n2, n3, u.a, u.b] c 4 = ptv (pk [o0, o1, o2, o3, u.a1, u.b1] [n0, n1, n2, n3, u.a, u.b] c 3) ([o0, o1, o2, o3, u.a1, u.b1].getD 3 0) ([n0, n1, n2, n3, u.a, u.b].getD 3 0)) := rfl
   generalize pk [o0, o1, o2, o3, u.a1, u.b1] [n0, n1, n2, n3, u.a, u.b] c 3 = ck at *
   go_wp2_with fail
   refine (patch_any ck o3 n3 wr hc ho3 hn3).mono ?_
   rintro e w5 ⟨rfl, rfl⟩
   go_wp2_with fail
   go_roundw
   case rel => exact ⟨4, by omega, by go_num, by rw [HN.out]; rfl, lr, hbr⟩
   case measure => simp [intOf]
  ·-- 4
   have hix : ∀ W : World, (Instr.index 154 (.agg #[.int .u16 o0, .int .u16 o1, .int .u16 o2, .int .u16 o3, .int .u16 u.a1, .int .u16 u.b1]) (.int .i64 4)).run Tryz.prog W = .ok (.int .u16 u.a1) W := fun W => by kernel_rfl
   have hc := pk_bd [o0, o1, o2, o3, u.a1, u.b1] [n0, n1, n2, n3, u.a, u.b] c hc0 4
   have HN : Hid (pk [o0, o1, o2, o3, u.a1, u.b1] [n0, n1, n2, n3, u.a, u.b] c 5 = ptv (pk [o0, o1, o2, o3, u.a1, u.b1] [n0, n1, n2, n3, u.a, u.b] c 4) ([o0, o1, o2, o3, u.a1, u.b1].getD 4 0) ([n0, n1, n2, n3, u.a, u.b].getD 4 0)) := rfl
   generalize pk [o0, o1, o2, o3, u.a1, u.b1] [n0, n1, n2, n3, u.a, u.b] c 4 = ck at *
   go_wp2_with fail
   refine (patch_any ck u.a1 u.a wr hc ho4 hn4).mono ?_
   rintro e w5 ⟨rfl, rfl⟩
   go_wp2_with fail
   go_roundw
   case rel => exact ⟨5, by omega, by go_num, by rw [HN.out]; rfl, lr, hbr⟩
   case measure => simp [intOf]
  ·-- 5
   have hix : ∀ W : World, (Instr.index 154 (.agg #[.int .u16 o0, .int .u16 o1, .int .u16 o2, .int .u16 o3, .int .u16 u.a1, .int .u16 u.b1]) (.int .i64 5)).run Tryz.prog W = .ok (.int .u16 u.b1) W := fun W => by kernel_rfl
   have hc := pk_bd [o0, o1, o2, o3, u.a1, u.b1] [n0, n1, n2, n3, u.a, u.b] c hc0 5
   have HN : Hid (pk [o0, o1, o2, o3, u.a1, u.b1] [n0, n1, n2, n3, u.a, u.b] c 6 = ptv (pk [o0, o1, o2, o3, u.a1, u.b1] [n0, n1, n2, n3, u.a, u.b] c 5) ([o0, o1, o2, o3, u.a1, u.b1].getD 5 0) ([n0, n1, n2, n3, u.a, u.b].getD 5 0)) := rfl
   generalize pk [o0, o1, o2, o3, u.a1, u.b1] [n0, n1, n2, n3, u.a, u.b] c 5 = ck at *
   go_wp2_with fail
   refine (patch_any ck u.b1 u.b wr hc ho5 hn5).mono ?_
   rintro e w5 ⟨rfl, rfl⟩
   go_wp2_with fail
   go_roundw
   case rel => exact ⟨6, by omega, by go_num, by rw [HN.out]; rfl, lr, hbr⟩
   case measure => simp [intOf]

/-- A segment, a datagram, a message that is quoted, with another tuple. -/
def qsT (u : Un) (zs : List Int) : List Int := putAt2 (prt u.a u.b zs) 16 (ptch u (getAt2 (prt u.a u.b zs) 16))
def qsU (u : Un) (zs : List Int) : List Int := if getAt2 (prt u.a u.b zs) 6 = 0 then prt u.a u.b zs else putAt2 (prt u.a u.b zs) 6 (nbr (ptch u (getAt2 (prt u.a u.b zs) 6)))
def qsI (u : Un) (zs : List Int) : List Int := putAt2 (Mt.put2 zs 4 u.a) 2 (ptv (getAt2 (Mt.put2 zs 4 u.a) 2) u.a1 u.a)
def qsD (pr : Int) (u : Un) (zs : List Int) : List Int := if pr = 6 then qsT u zs else if pr = 17 then qsU u zs else if pr = 1 then qsI u zs else rwG u.b zs

set_option maxHeartbeats 2000000 in
theorem uqsegment_any (base : Nat) (g : Nat) (u : Un) (zs : List Int) (w : World) (hB : Mt.By zs) (h : UR w g u zs) (hb : base ≤ w.heap.size) (hl : zs.length ≤ 140737488355328) (h8 : 8 ≤ zs.length) (hu : UOk u) (hw : UOw u) :
  Calls Tryz.prog 85 #[.pointer (some ⟨g, 0, none⟩)] w fun e w' => UQ base w g u (qsT u zs) e w' := by
 have H1 := hide (uports_any base g u zs w h hb hl (by omega) hu.2.2.1 hu.2.2.2)
 have hB1 := prt_by hB hu.2.2.1 hu.2.2.2
 have hL1 : (prt u.a u.b zs).length ≤ 140737488355328 := by rw [prt_length]; exact hl
 have HR : Hid (qsT u zs = putAt2 (prt u.a u.b zs) 16 (ptch u (getAt2 (prt u.a u.b zs) 16))) := rfl
 generalize prt u.a u.b zs = z1 at *
 go_enter Tryz.func85, Tryz.ntmps85
 go_wp2_with fail
 refine H1.out.mono ?_
 rintro e w1 ⟨rfl, S1, b1⟩
 go_wp2_with fail
 refine (uget_any (n := 0) g u z1 hB1 16 w1 S1.ur).mono ?_
 rintro e w2 ⟨rfl, q2, hq2⟩
 have l2 : Later w1 w2 := by rw [hq2]; exact below_draw (Below.refl _ _) q2
 have hg2 : 0 ≤ getAt2 z1 16 ∧ getAt2 z1 16 ≤ 65535 := by unfold getAt2; split; exact wat_bd hB1 _; omega
 generalize getAt2 z1 16 = c2 at *
 clear hq2
 obtain ⟨bv2, hU2, _⟩ := S1.later l2
 go_wp2_with fail
 refine (upatched_any g u bv2 c2 w2 hU2 hg2 hu hw).mono ?_
 rintro e w3 ⟨rfl, l3⟩
 have hpb := ptch_bd u c2
 generalize ptch u c2 = c3 at *
 go_wp2_with fail
 refine (uput_any base g u z1 16 c3 w3 ((S1.later l2).later l3).ur (Nat.le_trans hb (Nat.le_trans b1.size (l2.trans l3).size)) hL1 hpb).mono ?_
 rw [← HR.out]
 rintro e w4 ⟨rfl, S4, b4⟩
 go_wp2_with fail
 go_end0
 exact ⟨rfl, S4, b1.trans ((But.of (l2.trans l3)).trans b4)⟩

set_option maxHeartbeats 2000000 in
theorem uqdatagram_any (base : Nat) (g : Nat) (u : Un) (zs : List Int) (w : World) (hB : Mt.By zs) (h : UR w g u zs) (hb : base ≤ w.heap.size) (hl : zs.length ≤ 140737488355328) (h8 : 8 ≤ zs.length) (hu : UOk u) (hw : UOw u) :
  Calls Tryz.prog 86 #[.pointer (some ⟨g, 0, none⟩)] w fun e w' => UQ base w g u (qsU u zs) e w' := by
 have H1 := hide (uports_any base g u zs w h hb hl (by omega) hu.2.2.1 hu.2.2.2)
 have hB1 := prt_by hB hu.2.2.1 hu.2.2.2
 have hL1 : (prt u.a u.b zs).length ≤ 140737488355328 := by rw [prt_length]; exact hl
 have HR : Hid (qsU u zs = if getAt2 (prt u.a u.b zs) 6 = 0 then prt u.a u.b zs else putAt2 (prt u.a u.b zs) 6 (nbr (ptch u (getAt2 (prt u.a u.b zs) 6)))) := rfl
 generalize qsU u zs = zr at *
 generalize prt u.a u.b zs = z1 at *
 go_enter Tryz.func86, Tryz.ntmps86
 go_wp2_with fail
 refine H1.out.mono ?_
 rintro e w1 ⟨rfl, S1, b1⟩
 have hg2 : 0 ≤ getAt2 z1 6 ∧ getAt2 z1 6 ≤ 65535 := by unfold getAt2; split; exact wat_bd hB1 _; omega
 have HBR := hide (ubare_any g u z1 hB1 w1 S1.ur)
 have HGT := hide (fun v (h : UR v g u z1) => uget_any (n := 0) g u z1 hB1 6 v h)
 generalize getAt2 z1 6 = c2 at *
 go_wp2_with fail
 refine HBR.out.mono ?_
 rintro e w2 ⟨rfl, l2⟩
 have S2 := S1.later l2
 by_cases c0 : c2 = 0
 ·have t0 : (c2 == 0) = true := by simp [c0]
  have HZ : Hid (zr = z1) := by show _ = _; rw [HR.out, if_pos c0]
  clear c0
  go_wp2_with fail
  go_end0
  exact ⟨rfl, by rw [HZ.out]; exact S2, b1.trans (But.of l2)⟩
 have t0 : (c2 == 0) = false := by simp [c0]
 have HZ : Hid (zr = putAt2 z1 6 (nbr (ptch u c2))) := by show _ = _; rw [HR.out, if_neg c0]
 clear c0
 go_wp2_with fail
 refine (HGT.out w2 S2.ur).mono ?_
 rintro e w3 ⟨rfl, q3, hq3⟩
 have l3 : Later w2 w3 := by rw [hq3]; exact below_draw (Below.refl _ _) q3
 clear hq3
 obtain ⟨bv2, hU2, _⟩ := S2.later l3
 go_wp2_with fail
 refine (upatched_any g u bv2 c2 w3 hU2 hg2 hu hw).mono ?_
 rintro e w4 ⟨rfl, l4⟩
 have hpb := nbr_bd (ptch_bd u c2)
 generalize ptch u c2 = c3 at *
 go_wp2_with fail
 refine (notBare_any c3 w4).mono ?_
 rintro e w5 ⟨rfl, rfl⟩
 go_wp2_with fail
 refine (uput_any base g u z1 6 _ w5 ((S2.later l3).later l4).ur (Nat.le_trans hb (Nat.le_trans b1.size (l2.trans (l3.trans l4)).size)) hL1 (by omega)).mono ?_
 rw [← HZ.out]
 rintro e w6 ⟨rfl, S6, b6⟩
 go_wp2_with fail
 go_end0
 exact ⟨rfl, S6, b1.trans ((But.of (l2.trans (l3.trans l4))).trans b6)⟩
end Go.Proofs.YtghpakfjpdifaaaGreatDoor

/- Package mangle: a message that is quoted. -/
namespace Go.Proofs.YtghpakfjpdifaaaGreatDoor
open Go.RowKit Go.Shelf
set_option maxRecDepth 100000
set_option linter.unusedVariables false
set_option linter.unusedSimpArgs false

/-- Nothing but the unit changes, and of it its bytes alone. -/
def UP (g : Nat) (u : Un) (w w' : World) : Prop := But (fun q => q = g) w w' ∧ ((∃ bv, UB w g u bv) → ∃ bv, UB w' g u bv)
theorem UP.pre (g : Nat) (u : Un) : Pre (UP g u) := ⟨fun w => ⟨But.refl _ _, id⟩, fun _ _ _ h k => ⟨h.1.trans k.1, fun x => k.2 (h.2 x)⟩⟩
theorem UP.of {g : Nat} {u : Un} {w w' : World} (l : Later w w') : UP g u w w' := ⟨But.of l, fun ⟨bv, h⟩ => ⟨bv, h.later l⟩⟩
set_option maxHeartbeats 4000000 in
theorem uqmessage_any (base : Nat) (g : Nat) (u : Un) (zs : List Int) (w : World) (hB : Mt.By zs) (h : UR w g u zs) (hb : base ≤ w.heap.size) (hl : zs.length ≤ 140737488355328) (h8 : 8 ≤ zs.length) (hu : UOk u) (hw : UOw u) :
  Calls Tryz.prog 87 #[.pointer (some ⟨g, 0, none⟩)] w fun e w' => UQ base w g u (qsI u zs) e w' := by
 obtain ⟨hs, hd, ha, hbb⟩ := hu
 obtain ⟨hs1, hd1, ha1, hb1⟩ := hw
 have H1 := hide (uput_any base g u zs 4 u.a w h hb hl ha)
 rw [putAt2_lit zs 4 4 u.a rfl (by omega)] at H1
 have hB1 := hB.put2 4 ha
 have hL1 := Mt.put2_length zs 4 u.a
 have HR : Hid (qsI u zs = putAt2 (Mt.put2 zs 4 u.a) 2 (ptv (getAt2 (Mt.put2 zs 4 u.a) 2) u.a1 u.a)) := rfl
 generalize Mt.put2 zs 4 u.a = z1 at *
 have hl1 : z1.length ≤ 140737488355328 := by omega
 clear hL1
 obtain ⟨bv, hU, _⟩ := id h
 have CU := block_cell hU
 simp only [unc] at CU
 go_enter Tryz.func87, Tryz.ntmps87
 go_wp2_with fail
 refine H1.out.mono ?_
 rintro e w1 ⟨rfl, S1, b1⟩
 clear CU hU
 have hg2 : 0 ≤ getAt2 z1 2 ∧ getAt2 z1 2 ≤ 65535 := by unfold getAt2; split; exact wat_bd hB1 _; omega
 have HGT := hide (fun v (h : UR v g u z1) => uget_any (n := 0) g u z1 hB1 2 v h)
 generalize getAt2 z1 2 = c2 at *
 go_upto_region 1 with fail
 refine anyT_begin (R := UP g u) 15 rfl (by kernel_rfl) ?_
 have hdr : Later w1 w1.drew := Later.drew w1
 have S2 := S1.later hdr
 have b2 : But (fun q => q = g) w w1.drew := b1.trans (But.of hdr)
 generalize w1.drew = w2 at *
 have S2' := hide S2
 obtain ⟨bv2, hU2, _⟩ := S2
 have q1 : ∀ v1, UP g u w2 v1 → v1.cell? ⟨g, 4, none⟩ = some (.int .u16 u.a1) ∧ v1.cell? ⟨g, 9, none⟩ = some (.int .u16 u.a) := fun v1 hv => by
  obtain ⟨bv, hx⟩ := hv.2 ⟨_, hU2⟩
  have k := block_cell hx
  exact ⟨k 4, k 9⟩
 have qa : ∀ v1, UP g u w2 v1 → v1.cell? ⟨g, 4, none⟩ = some (.int .u16 u.a1) := fun v1 h => (q1 v1 h).1
 have qb : ∀ v1, UP g u w2 v1 → v1.cell? ⟨g, 9, none⟩ = some (.int .u16 u.a) := fun v1 h => (q1 v1 h).2
 clear q1
 refine tV (UP.pre g u) 0 rfl rfl ?_; apply Exists.intro; refine ⟨fun v1 hv1 => ?_, ?_⟩; (· (go_simp; rfl)); simp only [Act.put, sA, sB, sC]
 refine tV (UP.pre g u) 1 rfl rfl ?_; apply Exists.intro; refine ⟨fun v1 hv1 => ?_, ?_⟩; (· (go_simp; rfl)); simp only [Act.put, sA, sB, sC]
 refine tV (UP.pre g u) 3 rfl rfl ?_; apply Exists.intro; refine ⟨fun v1 hv1 => ?_, ?_⟩; (· (go_simp; rfl)); simp only [Act.put, sA, sB, sC]
 refine tV (UP.pre g u) 4 rfl rfl ?_; apply Exists.intro; refine ⟨fun v1 hv1 => ?_, ?_⟩; (· (go_simp; rfl)); simp only [Act.put, sA, sB, sC]
 refine tV (UP.pre g u) 5 rfl rfl ?_; apply Exists.intro; refine ⟨fun v1 hv1 => ?_, ?_⟩; (· (go_simp; rfl)); simp only [Act.put, sA, sB, sC]
 refine tV (UP.pre g u) 6 rfl rfl ?_; apply Exists.intro; refine ⟨fun v1 hv1 => ?_, ?_⟩; (· (go_simp; rfl)); simp only [Act.put, sA, sB, sC]
 refine tV (UP.pre g u) 7 rfl rfl ?_; apply Exists.intro; refine ⟨fun v1 hv1 => ?_, ?_⟩; (· (go_simp; rfl)); simp only [Act.put, sA, sB, sC]
 refine tV (UP.pre g u) 8 rfl rfl ?_; apply Exists.intro; refine ⟨fun v1 hv1 => ?_, ?_⟩; (· (go_simp; rfl)); simp only [Act.put, sA, sB, sC]
 refine tV (UP.pre g u) 9 rfl rfl ?_; apply Exists.intro; refine ⟨fun v1 hv1 => ?_, ?_⟩; (· (go_simp; rfl)); simp only [Act.put, sA, sB, sC]
 refine tV (UP.pre g u) 10 rfl rfl ?_; apply Exists.intro; refine ⟨fun v1 hv1 => ?_, ?_⟩; (· (go_simp; rfl)); simp only [Act.put, sA, sB, sC]
 refine tV (UP.pre g u) 11 rfl rfl ?_; apply Exists.intro; refine ⟨fun v1 hv1 => ?_, ?_⟩; (· (go_simp; rfl)); simp only [Act.put, sA, sB, sC]
 refine tV (UP.pre g u) 12 rfl rfl ?_; apply Exists.intro; refine ⟨fun v1 hv1 => ?_, ?_⟩; (· (go_simp; rfl)); simp only [Act.put, sA, sB, sC]
 clear qa qb
 refine anyT_one 2 rfl (by kernel_rfl) rfl ?_
 refine wp_enter 113 #[.pointer (some ⟨g, 0, none⟩), .int .i64 2] (by go_simp) ((HGT.out w2 S2'.out.ur).mono ?_)
 rintro e w3 ⟨rfl, q3, hq3⟩
 have l3 : Later w2 w3 := by rw [hq3]; exact below_draw (Below.refl _ _) q3
 clear hq3
 refine ⟨UP.of l3, ?_⟩
 simp only [Act.put, sA, sB, sC]
 refine anyT_one 13 rfl (by kernel_rfl) rfl ?_
 refine wp_enter 116 #[.int .u16 c2, .int .u16 u.a1, .int .u16 u.a] (by go_simp) ((patch_any c2 u.a1 u.a w3 hg2 ha1 ha).mono ?_)
 rintro e w4 ⟨rfl, rfl⟩
 refine ⟨UP.of (Below.refl _ _), ?_⟩
 simp only [Act.put, sA, sB, sC]
 have HP := hide (ptv_bd c2 u.a1 u.a)
 have S3 := hide (S2'.out.later l3)
 refine anyT_one 14 rfl (by kernel_rfl) rfl ?_
 refine wp_enter 111 #[.pointer (some ⟨g, 0, none⟩), .int .i64 2, .int .u16 (ptv c2 u.a1 u.a)] (by go_simp; rfl) ((uput_any base g u z1 2 (ptv c2 u.a1 u.a) w4 S3.out.ur (Nat.le_trans hb (Nat.le_trans b2.size l3.size)) hl1 HP.out).mono ?_)
 rw [← HR.out]
 rintro e w5 ⟨rfl, S5, b5⟩
 refine ⟨⟨b5, fun _ => ⟨S5.choose, S5.choose_spec.1⟩⟩, ?_⟩
 simp only [Act.put, sA, sB, sC]
 refine anyT_done (by kernel_rfl) ?_
 go_wp2_with fail
 go_end0
 exact ⟨rfl, S5, b2.trans ((But.of l3).trans b5)⟩
end Go.Proofs.YtghpakfjpdifaaaGreatDoor

/- Package mangle: the map of what is done, and Rewrite. -/
namespace Go.Proofs.YtghpakfjpdifaaaGreatDoor
open Go.RowKit Go.Shelf
set_option maxRecDepth 100000
set_option linter.unusedVariables false
set_option linter.unusedSimpArgs false

/-- A packet's cells of zeros. -/
abbrev zpk : List Value := [.int .u8 0, .int .u16 0, .bool false, .int .u8 0, .int .u8 0, .int .u32 0, .int .u32 0, .slice none 0 0, .slice none 0 0]

abbrev mth (f : FuncId) (g : Nat) : Value := .func (.func f) #[.pointer (some ⟨g, 0, none⟩)] #[]
def whE (g : Nat) : Array MapEntry := #[⟨.int .u8 6, mth 96 g, 0⟩, ⟨.int .u8 17, mth 97 g, 1⟩, ⟨.int .u8 1, mth 98 g, 2⟩, ⟨.int .u8 47, mth 88 g, 3⟩]

set_option maxHeartbeats 1000000 in
theorem whole_any (g : Nat) (w : World) : Calls Tryz.prog 71 #[.pointer (some ⟨g, 0, none⟩)] w fun e w' => ∃ m, e = .returned (.map (some m)) ∧ Later w w' ∧ w'.heap[m]? = some (.map (whE g) 4) := by
 have hmm := @run_makeMap Tryz.prog
 have hb0 : Below w.heap.size w (w.alloc (.map #[] 0)) := (Below.refl _ _).alloc (Nat.le_refl _) _
 have hM0 := heap_alloc_new w (.map #[] 0)
 obtain ⟨w1, r1, m1, l1⟩ := run_insq (P := Tryz.prog) Tryz.underlying98 Tryz.underlying5 hM0 6 (mth 96 g) (by kernel_rfl)
 obtain ⟨w2, r2, m2, l2⟩ := run_insq (P := Tryz.prog) Tryz.underlying98 Tryz.underlying5 m1 17 (mth 97 g) (by kernel_rfl)
 obtain ⟨w3, r3, m3, l3⟩ := run_insq (P := Tryz.prog) Tryz.underlying98 Tryz.underlying5 m2 1 (mth 98 g) (by kernel_rfl)
 obtain ⟨w4, r4, m4, l4⟩ := run_insq (P := Tryz.prog) Tryz.underlying98 Tryz.underlying5 m3 47 (mth 88 g) (by kernel_rfl)
 have hb4 : Below w.heap.size w w4 := (((hb0.trans (l1 _ (Nat.le_refl _))).trans (l2 _ (Nat.le_refl _))).trans (l3 _ (Nat.le_refl _))).trans (l4 _ (Nat.le_refl _))
 clear m1 m2 m3 l1 l2 l3 l4 hM0 hb0
 have M4 := hide m4
 clear m4
 go_enter Tryz.func71, Tryz.ntmps71
 go_wp2_with fail
 go_ret
 exact ⟨_, rfl, hb4, M4.out⟩

theorem run_findv {P : Program} {q : IntKind} {t kt et : TypeId} (ht : P.underlying t = some (.map kt et)) (hk : P.underlying kt = some (.int q)) {w : World} {b : Nat} {es : Array MapEntry} {c : Nat} (hb : w.heap[b]? = some (.map es c)) (z : Int) (v : Value) (j : Nat)
  (hf : Instr.findNow (.int q) (.int q z) es.toList 0 = some (some (j, v))) : (Instr.lookup t (.map (some b)) (.int q z) false).run P w = .ok v w := by
 have hc : (Instr.checkKey es.isEmpty 10000 kt (.int q z)).run P w = .ok () w := MapKept.run_checkKey (k := .int q z) hk (by simp [MapKept.IsKey]) _ 9999
 simp [Instr.lookup, run_underlying ht, MapKept.run_getObj_map hb, hc, MapKept.run_findKey hk hf, Result.andThen]

/-- What is done of a protocol that has a tuple. -/
def uf (pr : Int) : FuncId := if pr = 6 then 96 else if pr = 17 then 97 else if pr = 1 then 98 else 88
def pok (pr : Int) : Prop := pr = 6 ∨ pr = 17 ∨ pr = 1 ∨ pr = 47
theorem ofe_pok {pr src dst : Int} {zd : List Int} (h : ofe pr src dst zd = 0) : pok pr := by
 unfold ofe at h
 unfold pok
 split at h
 ·omega
 split at h
 ·omega
 split at h
 ·omega
 split at h
 ·omega
 ·omega
theorem look_uf {pr : Int} (h : pok pr) (g : Nat) {w : World} {m : Nat} (hm : w.heap[m]? = some (.map (whE g) 4)) : (Instr.lookup 98 (.map (some m)) (.int .u8 pr) false).run Tryz.prog w = .ok (mth (uf pr) g) w := by
 rcases h with rfl | rfl | rfl | rfl
 ·exact run_findv Tryz.underlying98 Tryz.underlying5 hm 6 _ 0 (by kernel_rfl)
 ·exact run_findv Tryz.underlying98 Tryz.underlying5 hm 17 _ 1 (by kernel_rfl)
 ·exact run_findv Tryz.underlying98 Tryz.underlying5 hm 1 _ 2 (by kernel_rfl)
 ·exact run_findv Tryz.underlying98 Tryz.underlying5 hm 47 _ 3 (by kernel_rfl)
theorem cf_uf {pr : Int} (h : pok pr) (args : Array Value) (w : World) : (callFunc (uf pr) args).run Tryz.prog w = .ok (.enter (uf pr) args) w := by
 rcases h with rfl | rfl | rfl | rfl <;> kernel_rfl
theorem uf_any {pr : Int} {src dst : Int} (base : Nat) (g : Nat) (u : Un) (zs : List Int) (w : World) (hB : Mt.By zs) (h : UR w g u zs) (hb : base ≤ w.heap.size) (hl : 12 + zs.length ≤ 140737488355328) (hu : UOk u) (hpr : u.pr = pr) (ho : ofe pr src dst zs = 0) :
  Calls Tryz.prog (uf pr) #[.pointer (some ⟨g, 0, none⟩)] w fun e w' => UQ base w g u (rwD pr u.s u.d u.a u.b zs) e w' := by
 have hs := hu.1
 have hd := hu.2.1
 have ha := hu.2.2.1
 have hbb := hu.2.2.2
 unfold ofe at ho
 by_cases h6 : pr = 6
 ·subst h6
  rw [if_pos rfl] at ho
  rw [show uf 6 = 96 from rfl, show rwD 6 u.s u.d u.a u.b zs = rwT u.s u.d u.a u.b zs from by unfold rwD; rw [if_pos rfl]]
  exact usegment_any base g u zs w hB h hb hl (rwT_pte (s := u.s) (d := u.d) (a := u.a) (b := u.b) hB ho hs hd ha hbb).2.2.2.1 hu hpr
 rw [if_neg h6] at ho
 by_cases h17 : pr = 17
 ·subst h17
  rw [if_pos rfl] at ho
  rw [show uf 17 = 97 from rfl, show rwD 17 u.s u.d u.a u.b zs = rwU u.s u.d u.a u.b zs from by unfold rwD; rw [if_neg h6, if_pos rfl]]
  exact udatagram_any base g u zs w hB h hb hl (rwU_pue (s := u.s) (d := u.d) (a := u.a) (b := u.b) hB ho hs hd ha hbb).2 hu hpr
 rw [if_neg h17] at ho
 by_cases h1 : pr = 1
 ·subst h1
  rw [if_pos rfl] at ho
  rw [show uf 1 = 98 from rfl, show rwD 1 u.s u.d u.a u.b zs = rwI u.a zs from by unfold rwD; rw [if_neg h6, if_neg h17, if_pos rfl]]
  exact umessage_any base g u zs w hB h hb (by omega) (rwI_oie (a := u.a) hB ho ha).2.2.2 hu
 rw [if_neg h1] at ho
 by_cases h47 : pr = 47
 ·subst h47
  rw [if_pos rfl] at ho
  rw [show uf 47 = 88 from rfl, show rwD 47 u.s u.d u.a u.b zs = rwG u.b zs from by unfold rwD; rw [if_neg h6, if_neg h17, if_neg h1]]
  exact uframe_any base g u zs w h hb (by omega) (rwG_pge (b := u.b) ho).2.2 hu
 ·rw [if_neg h47] at ho
  omega

/-- What Rewrite refuses with (0: nothing). -/
def rwe (pr tp src dst : Int) (lo : Nat) (zd : List Int) : Int := if pr ≠ tp then 12 else if ofe pr src dst zd ≠ 0 then ofe pr src dst zd else flt lo zd.length
end Go.Proofs.YtghpakfjpdifaaaGreatDoor

/- Package mangle: a quoted header with other addresses; the map of what is done with what is quoted. -/
namespace Go.Proofs.YtghpakfjpdifaaaGreatDoor
open Go.RowKit Go.Shelf
set_option maxRecDepth 100000
set_option linter.unusedVariables false
set_option linter.unusedSimpArgs false

def quE (g : Nat) : Array MapEntry := #[⟨.int .u8 6, mth 85 g, 0⟩, ⟨.int .u8 17, mth 86 g, 1⟩, ⟨.int .u8 1, mth 87 g, 2⟩, ⟨.int .u8 47, mth 88 g, 3⟩]

set_option maxHeartbeats 1000000 in
theorem quotedm_any (g : Nat) (w : World) : Calls Tryz.prog 51 #[.pointer (some ⟨g, 0, none⟩)] w fun e w' => ∃ m, e = .returned (.map (some m)) ∧ Later w w' ∧ w'.heap[m]? = some (.map (quE g) 4) := by
 have hmm := @run_makeMap Tryz.prog
 have hb0 : Below w.heap.size w (w.alloc (.map #[] 0)) := (Below.refl _ _).alloc (Nat.le_refl _) _
 have hM0 := heap_alloc_new w (.map #[] 0)
 obtain ⟨w1, r1, m1, l1⟩ := run_insq (P := Tryz.prog) Tryz.underlying98 Tryz.underlying5 hM0 6 (mth 85 g) (by kernel_rfl)
 obtain ⟨w2, r2, m2, l2⟩ := run_insq (P := Tryz.prog) Tryz.underlying98 Tryz.underlying5 m1 17 (mth 86 g) (by kernel_rfl)
 obtain ⟨w3, r3, m3, l3⟩ := run_insq (P := Tryz.prog) Tryz.underlying98 Tryz.underlying5 m2 1 (mth 87 g) (by kernel_rfl)
 obtain ⟨w4, r4, m4, l4⟩ := run_insq (P := Tryz.prog) Tryz.underlying98 Tryz.underlying5 m3 47 (mth 88 g) (by kernel_rfl)
 have hb4 : Below w.heap.size w w4 := (((hb0.trans (l1 _ (Nat.le_refl _))).trans (l2 _ (Nat.le_refl _))).trans (l3 _ (Nat.le_refl _))).trans (l4 _ (Nat.le_refl _))
 clear m1 m2 m3 l1 l2 l3 l4 hM0 hb0
 have M4 := hide m4
 clear m4
 go_enter Tryz.func51, Tryz.ntmps51
 go_wp2_with fail
 go_ret
 exact ⟨_, rfl, hb4, M4.out⟩

/-- What is done of a protocol that has a tuple, with what is quoted. -/
def uqf (pr : Int) : FuncId := if pr = 6 then 85 else if pr = 17 then 86 else if pr = 1 then 87 else 88
theorem look_uqf {pr : Int} (h : pok pr) (g : Nat) {w : World} {m : Nat} (hm : w.heap[m]? = some (.map (quE g) 4)) : (Instr.lookup 98 (.map (some m)) (.int .u8 pr) false).run Tryz.prog w = .ok (mth (uqf pr) g) w := by
 rcases h with rfl | rfl | rfl | rfl
 ·exact run_findv Tryz.underlying98 Tryz.underlying5 hm 6 _ 0 (by kernel_rfl)
 ·exact run_findv Tryz.underlying98 Tryz.underlying5 hm 17 _ 1 (by kernel_rfl)
 ·exact run_findv Tryz.underlying98 Tryz.underlying5 hm 1 _ 2 (by kernel_rfl)
 ·exact run_findv Tryz.underlying98 Tryz.underlying5 hm 47 _ 3 (by kernel_rfl)
theorem cf_uqf {pr : Int} (h : pok pr) (args : Array Value) (w : World) : (callFunc (uqf pr) args).run Tryz.prog w = .ok (.enter (uqf pr) args) w := by
 rcases h with rfl | rfl | rfl | rfl <;> kernel_rfl
theorem uqf_any {pr : Int} (base : Nat) (g : Nat) (u : Un) (zs : List Int) (w : World) (hB : Mt.By zs) (h : UR w g u zs) (hb : base ≤ w.heap.size) (hl : zs.length ≤ 140737488355328) (hu : UOk u) (hw : UOw u) (hp : pok pr) (h8 : 8 ≤ zs.length) :
  Calls Tryz.prog (uqf pr) #[.pointer (some ⟨g, 0, none⟩)] w fun e w' => UQ base w g u (qsD pr u zs) e w' := by
 rcases hp with rfl | rfl | rfl | rfl
 ·exact uqsegment_any base g u zs w hB h hb hl h8 hu hw
 ·exact uqdatagram_any base g u zs w hB h hb hl h8 hu hw
 ·exact uqmessage_any base g u zs w hB h hb hl h8 hu hw
 ·exact uframe_any base g u zs w h hb hl h8 hu

/-- A quoted header with other addresses. -/
def rnm (s d : Int) (zs : List Int) : List Int := putAt2 (putAt2 (putAt4 (putAt4 zs 12 s) 16 d) 10 0) 10 (Mt.cks (putAt2 (putAt4 (putAt4 zs 12 s) 16 d) 10 0))

set_option maxHeartbeats 2000000 in
theorem renamed_any (tp s d a b : Int) (sv : Value) (zs : List Int) (w : World) (hB : Mt.By zs) (hI : Rd w.heap.size w sv zs) (hl : zs.length ≤ 140737488355328) (hs : 0 ≤ s ∧ s ≤ 4294967295) (hd : 0 ≤ d ∧ d ≤ 4294967295) :
  Calls Tryz.prog 53 #[sv, .agg #[.int .u8 tp, .int .u32 s, .int .u32 d, .int .u16 a, .int .u16 b]] w fun e w' => ∃ a, e = .returned (.slice a zs.length zs.length) ∧ Ow w.heap.size w' (.slice a zs.length zs.length) (rnm s d zs) ∧ Below w.heap.size w w' := by
 obtain ⟨a0, c0, rfl, hl0, hm0⟩ := hI.slice
 have HR : Hid (rnm s d zs = putAt2 (putAt2 (putAt4 (putAt4 zs 12 s) 16 d) 10 0) 10 (Mt.cks (putAt2 (putAt4 (putAt4 zs 12 s) 16 d) 10 0))) := rfl
 have h1 := putAt4_length zs 12 s
 have h2 := putAt4_length (putAt4 zs 12 s) 16 d
 have h3 := putAt2_length (putAt4 (putAt4 zs 12 s) 16 d) 10 0
 have hB3 : Mt.By (putAt2 (putAt4 (putAt4 zs 12 s) 16 d) 10 0) := By_putAt2 (By_putAt4 (By_putAt4 hB 12 hs) 16 hd) 10 (by omega)
 generalize rnm s d zs = zr at *
 have H1 := hide (fun (v : World) sv (h : Rd v.heap.size v sv zs) => put32_any sv zs 12 s v hl h hs)
 have H2 := hide (fun (v : World) sv (h : Rd v.heap.size v sv (putAt4 zs 12 s)) => put32_any sv (putAt4 zs 12 s) 16 d v (by omega) h hd)
 have H3 := hide (fun (v : World) sv (h : Rd v.heap.size v sv (putAt4 (putAt4 zs 12 s) 16 d)) => put16_any sv (putAt4 (putAt4 zs 12 s) 16 d) 10 0 v (by omega) h (by omega))
 generalize putAt4 zs 12 s = z1 at *
 generalize putAt4 z1 16 d = z2 at *
 generalize putAt2 z2 10 0 = z3 at *
 rw [h1] at H2
 rw [h2, h1] at H3
 have h2' := h2.trans h1
 have h3' := h3.trans h2'
 have H5 := hide (fun (v : World) sv (h : Rd v.heap.size v sv z3) => put16_any sv z3 10 (Mt.cks z3) v (by omega) h (Mt.cks_bd z3))
 have H4 := hide (fun (v : World) sv (h : Rd v.heap.size v sv z3) => sum_any sv z3 hB3 (by omega) v h)
 rw [h3', ← HR.out] at H5
 clear h1 h2 h3 h2' h3' HR
 have lw := later_alloc9 w (.cells #[.int .u8 tp, .int .u32 s, .int .u32 d, .int .u16 a, .int .u16 b] 29)
 have rT := heap_alloc_new w (.cells #[.int .u8 tp, .int .u32 s, .int .u32 d, .int .u16 a, .int .u16 b] 29)
 have RT := hide rT
 have hI1 := (hI.below lw).mono lw.size
 go_enter Tryz.func53, Tryz.ntmps53
 go_wp2_with fail
 refine (H1.out _ _ hI1).mono ?_
 rintro e w2 ⟨a2, rfl, O2, b2⟩
 have L2 : Later w w2 := lw.trans b2
 have RT2 := hide ((b2.block w.heap.size (by simp)).trans RT.out)
 have R2 := O2.rd
 clear O2 b2 hI1 RT lw rT hI
 have C2 := block_cell RT2.out
 go_wp2_with fail
 refine (H2.out _ _ R2).mono ?_
 rintro e w3 ⟨a3, rfl, O3, b3⟩
 have L3 : Later w w3 := L2.trans b3
 have R3 := O3.rd
 clear O3 C2 R2 RT2
 go_wp2_with fail
 refine (H3.out _ _ R3).mono ?_
 rintro e w4 ⟨a4, rfl, O4, b4⟩
 have L4 : Later w w4 := L3.trans b4
 have R4 := O4.rd
 clear O4 R3
 go_wp2_with fail
 refine (H4.out _ _ R4).mono ?_
 rintro e w5 ⟨rfl, b5⟩
 have L5 : Later w w5 := L4.trans b5
 have R5 := (R4.below b5).mono b5.size
 generalize Mt.cks z3 = cs at *
 clear R4
 go_wp2_with fail
 refine (H5.out _ _ R5).mono ?_
 rintro e w6 ⟨a6, rfl, O6, b6⟩
 go_wp2_with fail
 go_ret
 exact ⟨_, rfl, O6.mono L5.size, L5.trans b6⟩
end Go.Proofs.YtghpakfjpdifaaaGreatDoor

/- Package slices: Grow of nothing, Concat of slices of bytes. -/
namespace Go.Proofs.YtghpakfjpdifaaaGreatDoor
open Go.RowKit Go.Shelf
set_option maxRecDepth 100000
set_option linter.unusedVariables false
set_option linter.unusedSimpArgs false

set_option maxHeartbeats 2000000 in
theorem grow_pos (n : Nat) (w : World) (h0 : 0 < n) (hn : n ≤ 140737488355328) :
  Calls Tryz.prog 89 #[.slice none 0 0, .int .i64 n] w fun e w' => ∃ v, e = .returned v ∧ w'.ownsRow w.heap.size 5 1 v 0 [] ∧ Below w.heap.size w w' := by
 obtain ⟨i0, hi, hz0, hz1, hz2⟩ := info_parts info_u8
 have hcap := grownCap_le_maxLen w n 0 5 (by unfold maxLen; omega)
 have hcap0 := grownCap_ge w n 0 5
 have hr := Lib.run_append_nil_zeros (P := Tryz.prog) w 24 3 24 5 i0 (.int .u8 0) .i64 .i64 Tryz.underlying24 Tryz.underlying3 hi hz0 n h0 (by omega) (by omega) (by rw [hz2]; omega)
 have hsz : (Builtin.zeroCells (Value.int .u8 0).cells n ++ Builtin.zeroCells (Value.int .u8 0).cells (grownCap w n 0 5 - n)).size = grownCap w n 0 5 * 1 := by
  simp [Builtin.zeroCells, Value.cells]
  omega
 have ho := World.ownsRow_made (base := w.heap.size) (e := 5) (size := 1) w.drew (Builtin.zeroCells (Value.int .u8 0).cells n ++ Builtin.zeroCells (Value.int .u8 0).cells (grownCap w n 0 5 - n)) (grownCap w n 0 5) (Nat.le_refl _) hcap hsz
 have hb : Below w.heap.size w (w.drew.alloc (.cells (Builtin.zeroCells (Value.int .u8 0).cells n ++ Builtin.zeroCells (Value.int .u8 0).cells (grownCap w n 0 5 - n)) 5)) := (Below.refl _ _).drew.alloc (Nat.le_refl _) _
 have HO := hide ho
 have HB := hide hb
 clear ho hb hsz
 generalize w.drew.alloc (.cells (Builtin.zeroCells (Value.int .u8 0).cells n ++ Builtin.zeroCells (Value.int .u8 0).cells (grownCap w n 0 5 - n)) 5) = w1 at *
 generalize grownCap w n 0 5 = cp at *
 have hcp : cp ≤ 9223372036854775807 := hcap
 clear hcap
 go_enter Tryz.func89, Tryz.ntmps89
 go_wp2_with (at_builtin; refine Lib.wpList_append_run _ rfl (.tmp 20) (.tmp 21) _ _ rfl (.slice none 0 0) (.int .i64 n) rfl rfl _ _ hr ?_; clear hr)
 go_ret
 exact ⟨_, rfl, HO.out, HB.out⟩

set_option maxHeartbeats 2000000 in
theorem grow_any (n : Nat) (w : World) (hn : n ≤ 140737488355328) :
  Calls Tryz.prog 89 #[.slice none 0 0, .int .i64 n] w fun e w' => ∃ v, e = .returned v ∧ w'.ownsRow w.heap.size 5 1 v 0 [] ∧ Below w.heap.size w w' := by
 by_cases h0 : 0 < n
 ·exact grow_pos n w h0 hn
 obtain rfl : n = 0 := by omega
 go_enter Tryz.func89, Tryz.ntmps89
 go_wp2_with fail
 go_ret
 exact ⟨_, rfl, World.ownsRow_nil _ _ _ _, Below.refl _ _⟩

set_option maxHeartbeats 2000000 in
/-- Slices put one behind the other. -/
theorem concat_any (pb cap : Nat) (svs : List Value) (zss : List (List Int)) (w : World) (hn : svs.length = zss.length) (hcap : svs.length ≤ cap) (hk : svs.length ≤ 1000) (hl : zss.flatten.length ≤ 140737488355328)
  (hc : ∀ j, j < svs.length → w.cell? ⟨pb, j, none⟩ = some (svs[j]?.getD undef)) (hR : ∀ j, j < svs.length → Rd w.heap.size w (svs[j]?.getD undef) (zss[j]?.getD [])) :
  Calls Tryz.prog 52 #[.slice (some ⟨pb, 0, none⟩) svs.length cap] w fun e w' => ∃ v, e = .returned v ∧ w'.ownsRow w.heap.size 5 1 v zss.flatten.length (zss.flatten.map (Value.int .u8)) ∧ Below w.heap.size w w' := by
 obtain ⟨i0, hi, hz0, hz1, hz2⟩ := info_parts info_u8
 have HN := hide hn
 clear hn
 have HFL := hide (fun k (hlt : k < svs.length) => show (zss.take (k + 1)).flatten = (zss.take k).flatten ++ (zss[k]?.getD []) ∧ (zss.take (k + 1)).flatten.length ≤ zss.flatten.length from by
  have hkz : k < zss.length := by have := HN.out; omega
  have e1 : zss.take (k + 1) = zss.take k ++ [zss[k]?.getD []] := by
   rw [List.take_succ_eq_append_getElem hkz, List.getElem?_eq_getElem hkz]
   rfl
  refine ⟨by rw [e1, List.flatten_append, List.flatten_cons, List.flatten_nil, List.append_nil], ?_⟩
  conv => rhs; rw [← List.take_append_drop (k + 1) zss, List.flatten_append]
  simp)
 go_enter Tryz.func52, Tryz.ntmps52
 go_wp2
 go_loopw [3, 11] (fun v i wr => ∃ k : Nat, k ≤ svs.length ∧ i = .int .i64 (k : Int) ∧ v = .int .i64 ((zss.take k).flatten.length : Nat) ∧ wr = w)
  (fun _ i _ => svs.length - (intOf i).toNat)
 case atStart => exact ⟨0, by omega, rfl, rfl, rfl⟩
 case round =>
  obtain ⟨k, hk1, rfl, rfl, rfl⟩ := hrel
  by_cases hlt : k < svs.length
  ·have hcx := hc k hlt
   have hRx := hR k hlt
   obtain ⟨hfl, hle⟩ := HFL.out k hlt
   have hlen : (zss.take k).flatten.length + (zss[k]?.getD []).length ≤ 140737488355328 := by rw [← List.length_append, ← hfl]; omega
   have HF : Hid ((zss.take (k + 1)).flatten.length = (zss.take k).flatten.length + (zss[k]?.getD []).length) := by show _ = _; rw [hfl, List.length_append]
   clear hfl hle hc hR
   generalize svs[k]?.getD undef = sv at *
   generalize zss[k]?.getD [] = zs at *
   generalize (zss.take k).flatten.length = sz at *
   obtain ⟨a, cp, rfl, hl1, hm1⟩ := hRx.slice
   have hlt' : (k : Int) < svs.length := by omega
   go_wp2_with fail
   go_roundw
   case rel => exact ⟨k + 1, by omega, by go_num, by rw [HF.out]; go_num, trivial⟩
   case measure => simp [intOf]; omega
  ·obtain rfl : k = svs.length := by omega
   obtain ⟨w0, hw0⟩ : ∃ x, x = wr := ⟨_, rfl⟩
   subst hw0
   rw [HN.out, List.take_length]
   rw [HN.out] at hc hR
   have hgr := hide (grow_any zss.flatten.length w0 hl)
   have HL := hide hl
   clear hl
   generalize hnn : zss.flatten.length = nn at hgr HL ⊢
   have HQ := hide hnn
   clear hnn
   go_upto_region 9 with fail
   go_wp2_with fail
   refine hgr.out.mono ?_
   rintro e w1 ⟨nv, rfl, hown1, hb1⟩
   go_wp2_with fail
   go_loopw [6, 27] (fun v i wq => ∃ k : Nat, k ≤ zss.length ∧ i = .int .i64 (k : Int) ∧ wq.ownsRow w0.heap.size 5 1 v (zss.take k).flatten.length ((zss.take k).flatten.map (Value.int .u8)) ∧ Below w0.heap.size w0 wq)
    (fun _ i _ => zss.length - (intOf i).toNat)
   case atStart => exact ⟨0, by omega, rfl, hown1, hb1⟩
   case round =>
    obtain ⟨k, hk1, rfl, hown, hnx⟩ := hrel
    by_cases hlt : k < zss.length
    ·have hck := hc k hlt
     have hpb : pb < w0.heap.size := World.block_lt_of_cell? w0 ⟨pb, k, none⟩ hck
     have hcx : wr.cell? ⟨pb, k, none⟩ = some (svs[k]?.getD undef) := (hnx.cell (p := ⟨pb, k, none⟩) hpb).trans hck
     have hRx : Rd w0.heap.size wr (svs[k]?.getD undef) (zss[k]?.getD []) := (hR k hlt).below hnx
     obtain ⟨hfl, hle⟩ := HFL.out k (by rw [HN.out]; exact hlt)
     have HF := hide hfl
     have hlen : (zss.take k).flatten.length + (zss[k]?.getD []).length ≤ 140737488355328 := by rw [← List.length_append, ← hfl]; exact Nat.le_trans hle (by rw [HQ.out]; exact HL.out)
     clear hfl hle hc hR hck
     generalize svs[k]?.getD undef = sv at *
     generalize zss[k]?.getD [] = zs at *
     obtain ⟨a, cp, rfl, hl1, hm1⟩ := hRx.slice
     have hlt' : (k : Int) < zss.length := by omega
     have hk' : zss.length ≤ 1000 := by rw [← HN.out]; exact hk
     have HL1 := hide (show k + 1 ≤ zss.length from hlt)
     go_wp2_with (at_builtin; refine wpList_app _ rfl (.tmp 31) (.tmp 32) 24 rfl w0.heap.size 5 i0 Tryz.underlying24 hi hz0 hz1 hz2 _ _ rfl hown w0.heap.size _ zs rfl hRx hlen hnx.size ?_; intro v1 w1 hown1 hg1; have hb1 := below_app hnx hown hg1 (Nat.le_refl _) hnx.size; clear hg1 hown)
     go_roundw
     case rel => exact ⟨k + 1, HL1.out, by go_num, by rw [HF.out]; exact hown1, hb1⟩
     case measure => have := HL1.out; simp [intOf]; omega
    ·obtain rfl : k = zss.length := by omega
     rw [List.take_length] at hown
     go_wp2_with fail
     go_ret
     exact ⟨_, rfl, hown, hnx⟩
end Go.Proofs.YtghpakfjpdifaaaGreatDoor

/- Layer 5: what is read of the first eight bytes of a quoted packet's data. -/
namespace Go.Proofs.YtghpakfjpdifaaaGreatDoor
open Go.RowKit Go.Shelf
set_option maxRecDepth 100000
set_option linter.unusedVariables false
set_option linter.unusedSimpArgs false

theorem rd8 {W : World} {b : Nat} {x0 x1 x2 x3 x4 x5 x6 x7 : Int} (h : W.heap[b]? = some (.cells #[.int .u8 x0, .int .u8 x1, .int .u8 x2, .int .u8 x3, .int .u8 x4, .int .u8 x5, .int .u8 x6, .int .u8 x7] 93 (0, 0))) : Rd W.heap.size W (.slice (some ⟨b, 0, none⟩) 8 8) [x0, x1, x2, x3, x4, x5, x6, x7] := by
 refine .inr ⟨b, 0, 8, rfl, by simp, by simp, by omega, (bl9 h), fun j hj => ?_⟩
 rw [Nat.zero_add, block_cell h j]
 simp at hj
 match j, hj with
 | 0, _ => rfl
 | 1, _ => rfl
 | 2, _ => rfl
 | 3, _ => rfl
 | 4, _ => rfl
 | 5, _ => rfl
 | 6, _ => rfl
 | 7, _ => rfl

set_option maxHeartbeats 4000000 in
theorem ofTwo_any (x0 x1 x2 x3 x4 x5 x6 x7 : Int) (w : World) (hBx : Mt.By [x0, x1, x2, x3, x4, x5, x6, x7]) :
  Calls Tryz.prog 77 #[.agg #[.int .u8 x0, .int .u8 x1, .int .u8 x2, .int .u8 x3, .int .u8 x4, .int .u8 x5, .int .u8 x6, .int .u8 x7]] w fun e w' => Below w.heap.size w w' ∧ e = .returned (.tuple #[.agg #[.int .u16 (getAt2 [x0, x1, x2, x3, x4, x5, x6, x7] 0), .int .u16 (getAt2 [x0, x1, x2, x3, x4, x5, x6, x7] 2)], .int .i64 0]) := by
 have hb0 : Below w.heap.size w ((w.alloc (.cells #[.int .u8 x0, .int .u8 x1, .int .u8 x2, .int .u8 x3, .int .u8 x4, .int .u8 x5, .int .u8 x6, .int .u8 x7] 93)).alloc (.cells #[.int .u16 0, .int .u16 0] 91)) := ((Below.refl _ _).alloc (Nat.le_refl _) _).alloc (by simp) _
 have p0 : ((w.alloc (.cells #[.int .u8 x0, .int .u8 x1, .int .u8 x2, .int .u8 x3, .int .u8 x4, .int .u8 x5, .int .u8 x6, .int .u8 x7] 93)).alloc (.cells #[.int .u16 0, .int .u16 0] 91)).heap[w.heap.size]? = some (.cells #[.int .u8 x0, .int .u8 x1, .int .u8 x2, .int .u8 x3, .int .u8 x4, .int .u8 x5, .int .u8 x6, .int .u8 x7] 93) := (Below.heap_alloc _ _ _ (by simp)).trans (heap_alloc_new w _)
 have r0 := heap_alloc_new (w.alloc (.cells #[.int .u8 x0, .int .u8 x1, .int .u8 x2, .int .u8 x3, .int .u8 x4, .int .u8 x5, .int .u8 x6, .int .u8 x7] 93)) (.cells #[.int .u16 0, .int .u16 0] 91)
 rw [World.size_alloc] at r0
 have P0 := hide p0
 have R0 := hide r0
 clear r0 p0
 have hB : Mt.By [x0, x1, x2, x3, x4, x5, x6, x7] := hBx
 go_enter Tryz.func77, Tryz.ntmps77
 go_upto_region 1 with fail
 generalize ((w.alloc (.cells #[.int .u8 x0, .int .u8 x1, .int .u8 x2, .int .u8 x3, .int .u8 x4, .int .u8 x5, .int .u8 x6, .int .u8 x7] 93)).alloc (.cells #[.int .u16 0, .int .u16 0] 91)) = w0 at *
 refine anyT_begin (R := But (fun b => b = w.heap.size + 1)) 7 rfl (by kernel_rfl) ?_
 have ld : Later w0 w0.drew := Later.drew w0
 have pWd := later_keep ld P0.out
 have rWd := later_keep ld R0.out
 generalize w0.drew = Wd at *
 refine tV (But.pre _) 0 rfl rfl ?_; apply Exists.intro; refine ⟨fun v1 hv1 => ?_, ?_⟩; (· (go_simp; rfl)); simp only [Act.put, sA, sB, sC]
 refine tV (But.pre _) 2 rfl rfl ?_; apply Exists.intro; refine ⟨fun v1 hv1 => ?_, ?_⟩; (· (go_simp; rfl)); simp only [Act.put, sA, sB, sC]
 refine anyT_one 1 rfl (by kernel_rfl) rfl ?_
 refine wp_enter 84 #[.slice (some ⟨w.heap.size, 0, none⟩) 8 8, .int .i64 0] (by go_simp) ?_
 refine (get16_at _ [x0, x1, x2, x3, x4, x5, x6, x7] hB 0 Wd (rd8 pWd)).mono ?_
 rintro e W1 ⟨rfl, nW1, eW1⟩
 have lW1 : Later Wd W1 := by rw [eW1]; exact below_draw (Later.refl Wd) nW1
 clear eW1
 have pW1 := later_keep lW1 pWd
 have rW1 := later_keep lW1 rWd
 refine ⟨But.of lW1, ?_⟩
 simp only [Act.put, sA, sB, sC]
 refine anyT_one 3 rfl (by kernel_rfl) rfl ?_
 refine wp_enter 84 #[.slice (some ⟨w.heap.size, 0, none⟩) 8 8, .int .i64 2] (by go_simp) ?_
 refine (get16_at _ [x0, x1, x2, x3, x4, x5, x6, x7] hB 2 W1 (rd8 pW1)).mono ?_
 rintro e W2 ⟨rfl, nW2, eW2⟩
 have lW2 : Later W1 W2 := by rw [eW2]; exact below_draw (Later.refl W1) nW2
 clear eW2
 have pW2 := later_keep lW2 pW1
 have rW2 := later_keep lW2 rW1
 refine ⟨But.of lW2, ?_⟩
 simp only [Act.put, sA, sB, sC]
 generalize hg0 : getAt2 [x0, x1, x2, x3, x4, x5, x6, x7] 0 = g0 at *
 have HG0 := hide hg0
 clear hg0
 generalize hg2 : getAt2 [x0, x1, x2, x3, x4, x5, x6, x7] 2 = g2 at *
 have HG2 := hide hg2
 clear hg2
 refine tV (But.pre _) 4 rfl rfl ?_; apply Exists.intro; refine ⟨fun v1 hv1 => ?_, ?_⟩; (· (go_simp; rfl)); simp only [Act.put, sA, sB, sC]
 have rX := rW2
 have hwX : Below w.heap.size w W2 := hb0.trans ((ld.trans (lW1.trans lW2)).mono hb0.size)
 have kX := block_cell rX
 have fX := block_frozen rX
 refine anyT_one 5 rfl (by kernel_rfl) rfl ?_
 unfold Oper.wp
 go_simp
 generalize hV : (W2.setCell ⟨w.heap.size + 1, 0, none⟩ _).setCell ⟨w.heap.size + 1, 1, none⟩ _ = V
 have hV8 : V = putRow W2 (w.heap.size + 1) 0 [.int .u16 g0, .int .u16 g2] := hV.symm
 have hbV : But (fun b => b = w.heap.size + 1) W2 V := by rw [hV8]; exact putRow_but (E := fun b => b = w.heap.size + 1) (n := w.heap.size + 1) rfl _ _ _ _ (But.refl _ _)
 have pV := putRow_all ([.int .u16 g0, .int .u16 g2] : List Value) rX rfl
 rw [← hV8] at pV
 clear hV hV8 kX fX
 refine ⟨hbV, ?_⟩
 refine anyT_one 6 rfl (by kernel_rfl) rfl ?_
 unfold Oper.wp
 go_simp
 refine ⟨But.refl _ _, ?_⟩
 refine anyT_done (by kernel_rfl) ?_
 go_wp2_with fail
 have PV := block_cell pV
 have hwV : Below w.heap.size w V := hwX.trans (hbV.below hwX.size (fun k hk e => by omega))
 exact bodyPost_ret (v := .tuple #[.agg #[.int .u16 g0, .int .u16 g2], .int .i64 0]) (by simp [results, Tryz.results77, go_sem, PV]) rfl ⟨hwV, by rw [HG0.out, HG2.out]⟩

set_option maxHeartbeats 4000000 in
theorem ofEcho_any (x0 x1 x2 x3 x4 x5 x6 x7 : Int) (w : World) (hBx : Mt.By [x0, x1, x2, x3, x4, x5, x6, x7]) :
  Calls Tryz.prog 80 #[.agg #[.int .u8 x0, .int .u8 x1, .int .u8 x2, .int .u8 x3, .int .u8 x4, .int .u8 x5, .int .u8 x6, .int .u8 x7]] w fun e w' => Below w.heap.size w w' ∧ ((ecb x0 x1 = true ∧ e = .returned (.tuple #[.agg #[.int .u16 (getAt2 [x0, x1, x2, x3, x4, x5, x6, x7] 4), .int .u16 (getAt2 [x0, x1, x2, x3, x4, x5, x6, x7] 4)], .int .i64 0])) ∨ (ecb x0 x1 = false ∧ e = .returned (.tuple #[.agg #[.int .u16 0, .int .u16 0], .int .i64 12]))) := by
 have hb0 : Below w.heap.size w ((w.alloc (.cells #[.int .u8 x0, .int .u8 x1, .int .u8 x2, .int .u8 x3, .int .u8 x4, .int .u8 x5, .int .u8 x6, .int .u8 x7] 93)).alloc (.cells #[.int .u16 0, .int .u16 0] 91)) := ((Below.refl _ _).alloc (Nat.le_refl _) _).alloc (by simp) _
 have p0 : ((w.alloc (.cells #[.int .u8 x0, .int .u8 x1, .int .u8 x2, .int .u8 x3, .int .u8 x4, .int .u8 x5, .int .u8 x6, .int .u8 x7] 93)).alloc (.cells #[.int .u16 0, .int .u16 0] 91)).heap[w.heap.size]? = some (.cells #[.int .u8 x0, .int .u8 x1, .int .u8 x2, .int .u8 x3, .int .u8 x4, .int .u8 x5, .int .u8 x6, .int .u8 x7] 93) := (Below.heap_alloc _ _ _ (by simp)).trans (heap_alloc_new w _)
 have r0 := heap_alloc_new (w.alloc (.cells #[.int .u8 x0, .int .u8 x1, .int .u8 x2, .int .u8 x3, .int .u8 x4, .int .u8 x5, .int .u8 x6, .int .u8 x7] 93)) (.cells #[.int .u16 0, .int .u16 0] 91)
 rw [World.size_alloc] at r0
 have P0 := hide p0
 have R0 := hide r0
 clear r0 p0
 have hB : Mt.By [x0, x1, x2, x3, x4, x5, x6, x7] := hBx
 go_enter Tryz.func80, Tryz.ntmps80
 go_upto_region 1 with fail
 generalize ((w.alloc (.cells #[.int .u8 x0, .int .u8 x1, .int .u8 x2, .int .u8 x3, .int .u8 x4, .int .u8 x5, .int .u8 x6, .int .u8 x7] 93)).alloc (.cells #[.int .u16 0, .int .u16 0] 91)) = w0 at *
 refine anyT_begin (R := But (fun b => b = w.heap.size + 1)) 12 rfl (by kernel_rfl) ?_
 have ld : Later w0 w0.drew := Later.drew w0
 have pWd := later_keep ld P0.out
 have rWd := later_keep ld R0.out
 generalize w0.drew = Wd at *
 have ha : ∀ v1, But (fun b => b = w.heap.size + 1) Wd v1 → ∀ i, v1.cell? ⟨w.heap.size, i, none⟩ = #[Value.int .u8 x0, .int .u8 x1, .int .u8 x2, .int .u8 x3, .int .u8 x4, .int .u8 x5, .int .u8 x6, .int .u8 x7][i]? := fun v1 h => block_cell ((h.block w.heap.size (bl9 pWd) (by omega)).trans pWd)
 refine tV (But.pre _) 0 rfl rfl ?_; apply Exists.intro; refine ⟨fun v1 hv1 => ?_, ?_⟩; (· (go_simp; rfl)); simp only [Act.put, sA, sB, sC]
 refine tV (But.pre _) 1 rfl rfl ?_; apply Exists.intro; refine ⟨fun v1 hv1 => ?_, ?_⟩; (· (go_simp; rfl)); simp only [Act.put, sA, sB, sC]
 refine tV (But.pre _) 2 rfl rfl ?_; apply Exists.intro; refine ⟨fun v1 hv1 => ?_, ?_⟩; (· (go_simp; rfl)); simp only [Act.put, sA, sB, sC]
 refine tV (But.pre _) 3 rfl rfl ?_; apply Exists.intro; refine ⟨fun v1 hv1 => ?_, ?_⟩; (· (go_simp; rfl)); simp only [Act.put, sA, sB, sC]
 clear ha
 refine tV (But.pre _) 4 rfl rfl ?_; apply Exists.intro; refine ⟨fun v1 hv1 => ?_, ?_⟩; (· (go_simp; rfl)); simp only [Act.put, sA, sB, sC]
 refine tV (But.pre _) 5 rfl rfl ?_; apply Exists.intro; refine ⟨fun v1 hv1 => ?_, ?_⟩; (· (go_simp; rfl)); simp only [Act.put, sA, sB, sC]
 refine anyT_one 6 rfl (by kernel_rfl) rfl ?_
 refine wp_enter 84 #[.slice (some ⟨w.heap.size, 0, none⟩) 8 8, .int .i64 4] (by go_simp) ?_
 refine (get16_at _ [x0, x1, x2, x3, x4, x5, x6, x7] hB 4 Wd (rd8 pWd)).mono ?_
 rintro e W1 ⟨rfl, nW1, eW1⟩
 have lW1 : Later Wd W1 := by rw [eW1]; exact below_draw (Later.refl Wd) nW1
 clear eW1
 have pW1 := later_keep lW1 pWd
 have rW1 := later_keep lW1 rWd
 refine ⟨But.of lW1, ?_⟩
 simp only [Act.put, sA, sB, sC]
 generalize hg4 : getAt2 [x0, x1, x2, x3, x4, x5, x6, x7] 4 = g4 at *
 have HG4 := hide hg4
 clear hg4
 refine anyT_one 7 rfl (by kernel_rfl) rfl ?_
 refine wp_enter 108 #[.agg #[.int .u8 x0, .int .u8 x1, .int .u32 0, .slice none 0 0], .int .u16 g4] (by go_simp) ?_
 refine (ofNumber_any x0 x1 0 g4 _ W1).mono ?_
 rintro e W2 ⟨hb2, ⟨he, rfl⟩ | ⟨he, rfl⟩⟩
 ·have HE := hide he
  clear he
  have l2 : Later W1 W2 := hb2
  have rX := later_keep l2 rW1
  have hwX : Below w.heap.size w W2 := hb0.trans ((ld.trans (lW1.trans l2)).mono hb0.size)
  refine ⟨But.of l2, ?_⟩
  simp only [Act.put, sA, sB, sC]
  refine tV (But.pre _) 8 rfl rfl ?_; apply Exists.intro; refine ⟨fun v1 hv1 => ?_, ?_⟩; (· (go_simp; rfl)); simp only [Act.put, sA, sB, sC]
  refine tV (But.pre _) 9 rfl rfl ?_; apply Exists.intro; refine ⟨fun v1 hv1 => ?_, ?_⟩; (· (go_simp; rfl)); simp only [Act.put, sA, sB, sC]
  have kX := block_cell rX
  have fX := block_frozen rX
  refine anyT_one 10 rfl (by kernel_rfl) rfl ?_
  unfold Oper.wp
  go_simp
  generalize hV : (W2.setCell ⟨w.heap.size + 1, 0, none⟩ _).setCell ⟨w.heap.size + 1, 1, none⟩ _ = V
  have hV8 : V = putRow W2 (w.heap.size + 1) 0 [.int .u16 g4, .int .u16 g4] := hV.symm
  have hbV : But (fun b => b = w.heap.size + 1) W2 V := by rw [hV8]; exact putRow_but (E := fun b => b = w.heap.size + 1) (n := w.heap.size + 1) rfl _ _ _ _ (But.refl _ _)
  have pV := putRow_all ([.int .u16 g4, .int .u16 g4] : List Value) rX rfl
  rw [← hV8] at pV
  clear hV hV8 kX fX
  refine ⟨hbV, ?_⟩
  refine anyT_one 11 rfl (by kernel_rfl) rfl ?_
  unfold Oper.wp
  go_simp
  refine ⟨But.refl _ _, ?_⟩
  refine anyT_done (by kernel_rfl) ?_
  go_wp2_with fail
  have PV := block_cell pV
  have hwV : Below w.heap.size w V := hwX.trans (hbV.below hwX.size (fun k hk e => by omega))
  exact bodyPost_ret (v := .tuple #[.agg #[.int .u16 g4, .int .u16 g4], .int .i64 0]) (by simp [results, Tryz.results80, go_sem, PV]) rfl ⟨hwV, .inl ⟨HE.out, by rw [HG4.out]⟩⟩
 ·have HE := hide he
  clear he
  have l2 : Later W1 W2 := hb2
  have rX := later_keep l2 rW1
  have hwX : Below w.heap.size w W2 := hb0.trans ((ld.trans (lW1.trans l2)).mono hb0.size)
  refine ⟨But.of l2, ?_⟩
  simp only [Act.put, sA, sB, sC]
  refine tV (But.pre _) 8 rfl rfl ?_; apply Exists.intro; refine ⟨fun v1 hv1 => ?_, ?_⟩; (· (go_simp; rfl)); simp only [Act.put, sA, sB, sC]
  refine tV (But.pre _) 9 rfl rfl ?_; apply Exists.intro; refine ⟨fun v1 hv1 => ?_, ?_⟩; (· (go_simp; rfl)); simp only [Act.put, sA, sB, sC]
  have kX := block_cell rX
  have fX := block_frozen rX
  refine anyT_one 10 rfl (by kernel_rfl) rfl ?_
  unfold Oper.wp
  go_simp
  generalize hV : (W2.setCell ⟨w.heap.size + 1, 0, none⟩ _).setCell ⟨w.heap.size + 1, 1, none⟩ _ = V
  have hV8 : V = putRow W2 (w.heap.size + 1) 0 [.int .u16 0, .int .u16 0] := hV.symm
  have hbV : But (fun b => b = w.heap.size + 1) W2 V := by rw [hV8]; exact putRow_but (E := fun b => b = w.heap.size + 1) (n := w.heap.size + 1) rfl _ _ _ _ (But.refl _ _)
  have pV := putRow_all ([.int .u16 0, .int .u16 0] : List Value) rX rfl
  rw [← hV8] at pV
  clear hV hV8 kX fX
  refine ⟨hbV, ?_⟩
  refine anyT_one 11 rfl (by kernel_rfl) rfl ?_
  unfold Oper.wp
  go_simp
  refine ⟨But.refl _ _, ?_⟩
  refine anyT_done (by kernel_rfl) ?_
  go_wp2_with fail
  have PV := block_cell pV
  have hwV : Below w.heap.size w V := hwX.trans (hbV.below hwX.size (fun k hk e => by omega))
  exact bodyPost_ret (v := .tuple #[.agg #[.int .u16 0, .int .u16 0], .int .i64 12]) (by simp [results, Tryz.results80, go_sem, PV]) rfl ⟨hwV, .inr ⟨HE.out, rfl⟩⟩

set_option maxHeartbeats 4000000 in
theorem ofBegin_any (x0 x1 x2 x3 x4 x5 x6 x7 : Int) (w : World) (hT : Tb w) (hBx : Mt.By [x0, x1, x2, x3, x4, x5, x6, x7]) :
  Calls Tryz.prog 82 #[.agg #[.int .u8 x0, .int .u8 x1, .int .u8 x2, .int .u8 x3, .int .u8 x4, .int .u8 x5, .int .u8 x6, .int .u8 x7]] w fun e w' => Below w.heap.size w w' ∧ ((pge 47 [x0, x1, x2, x3, x4, x5, x6, x7] = 4 ∧ e = .returned (.tuple #[.agg #[.int .u16 0, .int .u16 0], .int .i64 4])) ∨ (pge 47 [x0, x1, x2, x3, x4, x5, x6, x7] ≠ 4 ∧ e = .returned (.tuple #[.agg #[.int .u16 0, .int .u16 (getAt2 [x0, x1, x2, x3, x4, x5, x6, x7] 6)], .int .i64 0]))) := by
 have hb0 : Below w.heap.size w ((w.alloc (.cells #[.int .u8 x0, .int .u8 x1, .int .u8 x2, .int .u8 x3, .int .u8 x4, .int .u8 x5, .int .u8 x6, .int .u8 x7] 93)).alloc (.cells #[.int .u16 0, .int .u16 0] 91)) := ((Below.refl _ _).alloc (Nat.le_refl _) _).alloc (by simp) _
 have p0 : ((w.alloc (.cells #[.int .u8 x0, .int .u8 x1, .int .u8 x2, .int .u8 x3, .int .u8 x4, .int .u8 x5, .int .u8 x6, .int .u8 x7] 93)).alloc (.cells #[.int .u16 0, .int .u16 0] 91)).heap[w.heap.size]? = some (.cells #[.int .u8 x0, .int .u8 x1, .int .u8 x2, .int .u8 x3, .int .u8 x4, .int .u8 x5, .int .u8 x6, .int .u8 x7] 93) := (Below.heap_alloc _ _ _ (by simp)).trans (heap_alloc_new w _)
 have r0 := heap_alloc_new (w.alloc (.cells #[.int .u8 x0, .int .u8 x1, .int .u8 x2, .int .u8 x3, .int .u8 x4, .int .u8 x5, .int .u8 x6, .int .u8 x7] 93)) (.cells #[.int .u16 0, .int .u16 0] 91)
 rw [World.size_alloc] at r0
 have P0 := hide p0
 have R0 := hide r0
 clear r0 p0
 have hB : Mt.By [x0, x1, x2, x3, x4, x5, x6, x7] := hBx
 go_enter Tryz.func82, Tryz.ntmps82
 go_wp2_with fail
 generalize ((w.alloc (.cells #[.int .u8 x0, .int .u8 x1, .int .u8 x2, .int .u8 x3, .int .u8 x4, .int .u8 x5, .int .u8 x6, .int .u8 x7] 93)).alloc (.cells #[.int .u16 0, .int .u16 0] 91)) = w0 at *
 refine (parseGre_any 0 0 0 47 0 0 false _ _ [x0, x1, x2, x3, x4, x5, x6, x7] w0 (hT.below hb0 hT.pos) hB (rd8 P0.out) (by simp)).mono ?_
 rintro e w1 ⟨hb1, ⟨hf, rfl⟩ | ⟨hf, a1, c1, rfl, hO⟩⟩
 ·rw [show zf.toArray = #[.int .u16 0, .bool false, .bool false, .int .u32 0, .int .u32 0, .slice none 0 0] from rfl]
  generalize hpg : pge 47 [x0, x1, x2, x3, x4, x5, x6, x7] = f at *
  have HPG : Hid (pge 47 [x0, x1, x2, x3, x4, x5, x6, x7] = f) := hpg
  clear hpg hf
  skip
  by_cases h4 : f = 4
  ·skip
   have ne : (f == 4) = true := by simp [h4]
   have H4 := hide h4
   clear h4
   have l1 : Later w0 w1 := hb1
   have la : Later w1 (w1.alloc (.cells #[.int .u16 0, .bool false, .bool false, .int .u32 0, .int .u32 0, .slice none 0 0] 68)) := (Below.refl _ _).alloc (Nat.le_refl _) _
   have rX := later_keep (l1.trans la) R0.out
   have hwX := hb0.trans ((l1.trans la).mono hb0.size)
   have kX := block_cell rX
   have fX := block_frozen rX
   go_wp2_with fail
   clear ne
   generalize w1.alloc (.cells #[.int .u16 0, .bool false, .bool false, .int .u32 0, .int .u32 0, .slice none 0 0] 68) = W at *
   generalize hV : (W.setCell ⟨w.heap.size + 1, 0, none⟩ _).setCell ⟨w.heap.size + 1, 1, none⟩ _ = V
   have hV8 : V = putRow W (w.heap.size + 1) 0 [.int .u16 0, .int .u16 0] := hV.symm
   have hbV : But (fun b => b = w.heap.size + 1) W V := by rw [hV8]; exact putRow_but (E := fun b => b = w.heap.size + 1) (n := w.heap.size + 1) rfl _ _ _ _ (But.refl _ _)
   have pV := putRow_all ([.int .u16 0, .int .u16 0] : List Value) rX rfl
   rw [← hV8] at pV
   clear hV hV8 kX fX
   have PV := block_cell pV
   have hwV : Below w.heap.size w V := hwX.trans (hbV.below hwX.size (fun k hk e => by omega))
   exact bodyPost_ret (v := .tuple #[.agg #[.int .u16 0, .int .u16 0], .int .i64 f]) (by simp [results, Tryz.results82, go_sem, PV]) rfl ⟨hwV, .inl ⟨HPG.out.trans H4.out, by rw [H4.out]⟩⟩
  ·have HN4 := hide h4
   have ne : (f == 4) = false := by simp [h4]
   clear h4
   have l1 : Later w0 w1 := hb1
   have la : Later w1 (w1.alloc (.cells #[.int .u16 0, .bool false, .bool false, .int .u32 0, .int .u32 0, .slice none 0 0] 68)) := (Below.refl _ _).alloc (Nat.le_refl _) _
   have pW := later_keep (l1.trans la) P0.out
   have rW := later_keep (l1.trans la) R0.out
   have hwW := hb0.trans ((l1.trans la).mono hb0.size)
   go_wp2_with fail
   clear ne
   generalize w1.alloc (.cells #[.int .u16 0, .bool false, .bool false, .int .u32 0, .int .u32 0, .slice none 0 0] 68) = W at *
   refine (get16_at _ [x0, x1, x2, x3, x4, x5, x6, x7] hB 6 W (rd8 pW)).mono ?_
   rintro e W2 ⟨rfl, n2, e2⟩
   have l2 : Later W W2 := by rw [e2]; exact below_draw (Later.refl W) n2
   clear e2
   have rX := later_keep l2 rW
   have hwX := hwW.trans (l2.mono hwW.size)
   generalize hg6 : getAt2 [x0, x1, x2, x3, x4, x5, x6, x7] 6 = g6 at *
   have HG6 := hide hg6
   clear hg6
   have kX := block_cell rX
   have fX := block_frozen rX
   go_wp2_with fail
   generalize hV : (W2.setCell ⟨w.heap.size + 1, 0, none⟩ _).setCell ⟨w.heap.size + 1, 1, none⟩ _ = V
   have hV8 : V = putRow W2 (w.heap.size + 1) 0 [.int .u16 0, .int .u16 g6] := hV.symm
   have hbV : But (fun b => b = w.heap.size + 1) W2 V := by rw [hV8]; exact putRow_but (E := fun b => b = w.heap.size + 1) (n := w.heap.size + 1) rfl _ _ _ _ (But.refl _ _)
   have pV := putRow_all ([.int .u16 0, .int .u16 g6] : List Value) rX rfl
   rw [← hV8] at pV
   clear hV hV8 kX fX
   have PV := block_cell pV
   have hwV : Below w.heap.size w V := hwX.trans (hbV.below hwX.size (fun k hk e => by omega))
   exact bodyPost_ret (v := .tuple #[.agg #[.int .u16 0, .int .u16 g6], .int .i64 0]) (by simp [results, Tryz.results82, go_sem, PV]) rfl ⟨hwV, .inr ⟨by rw [HPG.out]; exact HN4.out, by rw [HG6.out]⟩⟩
 ·have HPG := hide hf
  clear hf hO
  have l1 : Later w0 w1 := hb1
  generalize hB1 : ghs (bgz [x0, x1, x2, x3, x4, x5, x6, x7]) = y1 at *
  generalize hB2 : gha (bgz [x0, x1, x2, x3, x4, x5, x6, x7]) = y2 at *
  generalize hB3 : gsq (bgz [x0, x1, x2, x3, x4, x5, x6, x7]) [x0, x1, x2, x3, x4, x5, x6, x7] = y3 at *
  generalize hB4 : gak (bgz [x0, x1, x2, x3, x4, x5, x6, x7]) [x0, x1, x2, x3, x4, x5, x6, x7] = y4 at *
  generalize hB5 : [x0, x1, x2, x3, x4, x5, x6, x7].length - ghd (bgz [x0, x1, x2, x3, x4, x5, x6, x7]) = y5 at *
  clear hB1 hB2 hB3 hB4 hB5
  have la : Later w1 (w1.alloc (.cells #[.int .u16 (getAt2 [x0, x1, x2, x3, x4, x5, x6, x7] 6), .bool y1, .bool y2, .int .u32 y3, .int .u32 y4, .slice a1 y5 c1] 68)) := (Below.refl _ _).alloc (Nat.le_refl _) _
  have pW := later_keep (l1.trans la) P0.out
  have rW := later_keep (l1.trans la) R0.out
  have hwW := hb0.trans ((l1.trans la).mono hb0.size)
  go_wp2_with fail
  generalize w1.alloc (.cells #[.int .u16 (getAt2 [x0, x1, x2, x3, x4, x5, x6, x7] 6), .bool y1, .bool y2, .int .u32 y3, .int .u32 y4, .slice a1 y5 c1] 68) = W at *
  refine (get16_at _ [x0, x1, x2, x3, x4, x5, x6, x7] hB 6 W (rd8 pW)).mono ?_
  rintro e W2 ⟨rfl, n2, e2⟩
  have l2 : Later W W2 := by rw [e2]; exact below_draw (Later.refl W) n2
  clear e2
  have rX := later_keep l2 rW
  have hwX := hwW.trans (l2.mono hwW.size)
  generalize hg6 : getAt2 [x0, x1, x2, x3, x4, x5, x6, x7] 6 = g6 at *
  have HG6 := hide hg6
  clear hg6
  have kX := block_cell rX
  have fX := block_frozen rX
  go_wp2_with fail
  generalize hV : (W2.setCell ⟨w.heap.size + 1, 0, none⟩ _).setCell ⟨w.heap.size + 1, 1, none⟩ _ = V
  have hV8 : V = putRow W2 (w.heap.size + 1) 0 [.int .u16 0, .int .u16 g6] := hV.symm
  have hbV : But (fun b => b = w.heap.size + 1) W2 V := by rw [hV8]; exact putRow_but (E := fun b => b = w.heap.size + 1) (n := w.heap.size + 1) rfl _ _ _ _ (But.refl _ _)
  have pV := putRow_all ([.int .u16 0, .int .u16 g6] : List Value) rX rfl
  rw [← hV8] at pV
  clear hV hV8 kX fX
  have PV := block_cell pV
  have hwV : Below w.heap.size w V := hwX.trans (hbV.below hwX.size (fun k hk e => by omega))
  exact bodyPost_ret (v := .tuple #[.agg #[.int .u16 0, .int .u16 g6], .int .i64 0]) (by simp [results, Tryz.results82, go_sem, PV]) rfl ⟨hwV, .inr ⟨by rw [HPG.out]; decide, by rw [HG6.out]⟩⟩
end Go.Proofs.YtghpakfjpdifaaaGreatDoor

/- Package ipv4's read: what it hands back of bytes; a refusal is caught. -/
namespace Go.Proofs.YtghpakfjpdifaaaGreatDoor
open Go.RowKit Go.Shelf
set_option maxRecDepth 100000
set_option linter.unusedVariables false
set_option linter.unusedSimpArgs false

/-- A packet of nothing. -/
abbrev zc : List Value := [.int .u8 0, .int .u16 0, .bool false, .int .u8 0, .int .u8 0, .int .u32 0, .int .u32 0, .slice none 0 0, .slice none 0 0]

theorem catch_idle (pb eb : Nat) (w : World) :
  CallsD Tryz.prog 101 #[.pointer (some ⟨pb, 0, none⟩), .pointer (some ⟨eb, 0, none⟩)] .returning w fun e u' w' => e = .returned (.tuple #[]) ∧ u' = .returning ∧ w' = w := by
 refine callsD_of_wpS Tryz.func101 rfl fun c₀ cs hu => ?_
 apply wpS_seq
 apply wpS_region
 simp [wpOpsS, go_sem, recoverD, hu, Tryz.ntmps101, Exit.thenS]
 refine wpS_of_wp ?_
 go_wp2
 cases c₀
 simp_all [bodyPostS, results, Tryz.results101]

theorem ta_yes (c : Int) (w : World) : (Instr.typeAssert (rfs c) 20 131 true).run Tryz.prog w = .ok (.tuple #[.agg #[.int .i64 c], .bool true]) w := by kernel_rfl

set_option maxHeartbeats 1000000 in
theorem catch_refused (n pb eb : Nat) (c x : Int) (cur : Array Value) (w : World) (hp : w.heap[pb]? = some (.cells cur 26 (0, 0))) (hs : cur.size = 9) (he : w.heap[eb]? = some (.cells #[.int .i64 x] 30 (0, 0))) (hpe : pb ≠ eb) (hn : n ≤ pb) (hn2 : n ≤ eb) :
  CallsD Tryz.prog 101 #[.pointer (some ⟨pb, 0, none⟩), .pointer (some ⟨eb, 0, none⟩)] (.panicking (rfp c)) w fun e u' w' =>
   e = .returned (.tuple #[]) ∧ u' = .panicking [{ v := rfs c, recovered := true }] ∧ w'.heap[pb]? = some (.cells zc.toArray 26 (0, 0)) ∧ w'.heap[eb]? = some (.cells #[.int .i64 c] 30 (0, 0)) ∧ Below n w w' := by
 have hpl := (bl9 hp)
 have hel := (bl9 he)
 refine callsD_of_wpS Tryz.func101 rfl fun c₀ cs hu => ?_
 apply wpS_seq
 apply wpS_region
 simp [wpOpsS, go_sem, recoverD, hu, Tryz.ntmps101, Exit.thenS]
 simp only [Array.replicate_succ, Array.replicate_zero, List.push_toArray, List.append_toArray, List.nil_append, List.cons_append, List.setIfInBounds_toArray, List.set_cons_zero, List.set_cons_succ]
 have hta := ta_yes c
 refine wpS_of_wp ?_
 go_wp2
 have hb0 : Later w (w.alloc (.cells #[.int .i64 c] 131)) := (Below.refl _ _).alloc (Nat.le_refl _) _
 have q3 : (w.alloc (.cells #[.int .i64 c] 131)).cell? ⟨w.heap.size, 0, none⟩ = some (.int .i64 c) := cell_new w _ _ 0
 have hp0 := (hb0.block pb hpl).trans hp
 have he0 := (hb0.block eb hel).trans he
 have hwp : w.heap.size ≠ pb := by omega
 have hwe : w.heap.size ≠ eb := by omega
 have hpw : ¬ pb = w.heap.size := by omega
 have hew : ¬ eb = w.heap.size := by omega
 generalize w.alloc (.cells #[.int .i64 c] 131) = W0 at *
 have k6 : ∀ j, W0.cell? ⟨pb, j, none⟩ = cur[j]? := block_cell hp0
 have f6 : ∀ j, W0.frozen? ⟨pb, j, none⟩ = false := block_frozen hp0
 have k7 : ∀ j, W0.cell? ⟨eb, j, none⟩ = #[Value.int .i64 x][j]? := block_cell he0
 have f7 : ∀ j, W0.frozen? ⟨eb, j, none⟩ = false := block_frozen he0
 go_region
 all_goals
  generalize hV7 : ((((((((W0.setCell ⟨pb, 0, none⟩ _).setCell ⟨pb, 1, none⟩ _).setCell ⟨pb, 2, none⟩ _).setCell ⟨pb, 3, none⟩ _).setCell ⟨pb, 4, none⟩ _).setCell ⟨pb, 5, none⟩ _).setCell ⟨pb, 6, none⟩ _).setCell ⟨pb, 7, none⟩ _).setCell ⟨pb, 8, none⟩ _ = V7
  have hV8 : V7 = putRow W0 pb 0 zc := hV7.symm
  have hbp : But (fun b => b = pb) W0 V7 := by rw [hV8]; exact putRow_but (E := fun b => b = pb) (n := pb) rfl zc 0 W0 W0 (But.refl _ _)
  have hP := putRow_all zc hp0 hs
  rw [← hV8] at hP
  clear hV7 hV8
  have hE := heap_set1 ((hbp.block eb (Nat.lt_of_lt_of_le hel hb0.size) (fun e => hpe e.symm)).trans he0) 0 (.int .i64 c)
  have hP2 := (Below.heap_setCell V7 ⟨eb, 0, none⟩ (.int .i64 c) pb hpe).trans hP
  have hB2 : Below n w ((V7.setCell ⟨eb, 0, none⟩ (.int .i64 c)).drew) := (((hb0.mono (by omega)).trans (hbp.below (Nat.le_trans (Nat.le_trans hn (Nat.le_of_lt hpl)) hb0.size) (fun k h e => by omega))).setCell (p := ⟨eb, 0, none⟩) hn2 _).drew
  refine ⟨rfl, _, rfl, .tuple #[], by simp [results, Tryz.results101], rfl, rfl, hP2, hE, hB2⟩

abbrev dfr (pb : Nat) : List Deferred := [{ target := .fn (.func 101) #[.pointer (some ⟨pb, 0, none⟩), .pointer (some ⟨pb + 1, 0, none⟩)], args := #[] }]

theorem res_read (tm : Array Value) (pb : Nat) (c : Int) (v0 v1 v2 v3 v4 v5 v6 v7 v8 : Value) (w : World) (h4 : tm[4]? = some (.pointer (some ⟨pb, 0, none⟩))) (h5 : tm[5]? = some (.pointer (some ⟨pb + 1, 0, none⟩)))
  (hp : w.heap[pb]? = some (.cells #[v0, v1, v2, v3, v4, v5, v6, v7, v8] 26 (0, 0))) (he : w.heap[pb + 1]? = some (.cells #[.int .i64 c] 30 (0, 0))) :
  (results Tryz.f75 tm).run Tryz.prog w = .ok (.tuple #[.agg #[v0, v1, v2, v3, v4, v5, v6, v7, v8], .int .i64 c]) w := by
 have kP := block_cell hp
 have kE := block_cell he
 simp [results, Tryz.results75, go_sem, h4, h5, kP, kE]

theorem door_refused {R : Ending → World → Prop} (tm : Array Value) (n pb : Nat) (c x : Int) (cur : Array Value) (w : World) (hp : w.heap[pb]? = some (.cells cur 26 (0, 0))) (hs : cur.size = 9) (he : w.heap[pb + 1]? = some (.cells #[.int .i64 x] 30 (0, 0))) (hn : n ≤ pb)
  (h4 : tm[4]? = some (.pointer (some ⟨pb, 0, none⟩))) (h5 : tm[5]? = some (.pointer (some ⟨pb + 1, 0, none⟩)))
  (hR : ∀ w', Below n w w' → R (.returned (.tuple #[.agg zc.toArray, .int .i64 c])) w') :
  bodyPostD Tryz.prog Tryz.f75 R (.panic (rfp c)) { tmps := tm, defers := dfr pb } w := by
 refine leaves_cons (f := 101) (args := #[.pointer (some ⟨pb, 0, none⟩), .pointer (some ⟨pb + 1, 0, none⟩)]) (by simp) (by simp [go_sem]) ?_
 refine (catch_refused n pb (pb + 1) c x cur w hp hs he (by omega) hn (by omega)).mono ?_
 rintro e u' w'' ⟨rfl, rfl, hP, hE, hb⟩
 exact ⟨_, res_read tm pb c _ _ _ _ _ _ _ _ _ w'' h4 h5 hP hE, hR w'' hb⟩

theorem door_idle {R : Ending → World → Prop} (tm : Array Value) (pb : Nat) (c : Int) (v0 v1 v2 v3 v4 v5 v6 v7 v8 : Value) (w : World)
  (hp : w.heap[pb]? = some (.cells #[v0, v1, v2, v3, v4, v5, v6, v7, v8] 26 (0, 0))) (he : w.heap[pb + 1]? = some (.cells #[.int .i64 c] 30 (0, 0)))
  (h4 : tm[4]? = some (.pointer (some ⟨pb, 0, none⟩))) (h5 : tm[5]? = some (.pointer (some ⟨pb + 1, 0, none⟩)))
  (hR : R (.returned (.tuple #[.agg #[v0, v1, v2, v3, v4, v5, v6, v7, v8], .int .i64 c])) w) :
  bodyPostD Tryz.prog Tryz.f75 R .ret { tmps := tm, defers := dfr pb } w := by
 refine leaves_cons (f := 101) (args := #[.pointer (some ⟨pb, 0, none⟩), .pointer (some ⟨pb + 1, 0, none⟩)]) (by simp) (by simp [go_sem]) ?_
 refine (catch_idle pb (pb + 1) w).mono ?_
 rintro e u' w'' ⟨rfl, rfl, rfl⟩
 exact ⟨_, res_read tm pb c _ _ _ _ _ _ _ _ _ w'' h4 h5 hp he, hR⟩

/-- How many bytes in all; what is wrong. -/
def ral (q : Bool) (zs : List Int) : Int := if q then min (wat zs 2) zs.length else wat zs 2
def rde (q : Bool) (zs : List Int) : Int :=
 if msr zs ≠ 0 then msr zs else if (zs.length : Int) < ral q zs then 3 else if chk zs ≠ 0 then chk zs else if q = true ∧ ral q zs - hl4 zs < 8 then 3 else 0

set_option maxHeartbeats 4000000 in
theorem read_any (q : Bool) (sv : Value) (zs : List Int) (w : World) (hB : Mt.By zs) (hl : zs.length ≤ 225000000000000) (hI : Rd w.heap.size w sv zs) :
  Calls Tryz.prog 75 #[sv, .bool q] w fun e w' => Below w.heap.size w w' ∧
   ((rde q zs ≠ 0 ∧ e = .returned (.tuple #[.agg zc.toArray, .int .i64 (rde q zs)])) ∨
    (rde q zs = 0 ∧ ∃ so sd, e = .returned (.tuple #[pkt zs so sd, .int .i64 0]) ∧ Ow w.heap.size w' so ((zs.take (hl4 zs).toNat).drop 20) ∧ Ow w.heap.size w' sd ((zs.take (ral q zs).toNat).drop (hl4 zs).toNat))) := by
 have hmf : ∀ (fn : Fn) (first cap : Array Value) (w : World), (Instr.makeFunc fn first cap).run Tryz.prog w = .ok (.func fn first cap) w := fun _ _ _ _ => rfl
 obtain ⟨a, cap, rfl, hl1, hm1⟩ := hI.slice
 have HM : Hid (rde q zs = if msr zs ≠ 0 then msr zs else if (zs.length : Int) < ral q zs then 3 else if chk zs ≠ 0 then chk zs else if q = true ∧ ral q zs - hl4 zs < 8 then 3 else 0) := rfl
 generalize rde q zs = m at *
 go_enter_defers Tryz.func75, Tryz.ntmps75
 go_wp2_with fail
 have a1 := heap_alloc_new w (.cells zc.toArray 26)
 have s1 : (w.alloc (.cells zc.toArray 26)).heap.size = w.heap.size + 1 := by simp
 have hb1 : Below w.heap.size w (w.alloc (.cells zc.toArray 26)) := (Below.refl _ _).alloc (Nat.le_refl _) _
 generalize w.alloc (.cells zc.toArray 26) = W1 at *
 have a2 := heap_alloc_new W1 (.cells #[.int .i64 0] 30)
 rw [s1] at a2
 have l2 : Later W1 (W1.alloc (.cells #[.int .i64 0] 30)) := (Below.refl _ _).alloc (Nat.le_refl _) _
 have a3 := (l2.block _ (by omega)).trans a1
 have s2 : (W1.alloc (.cells #[.int .i64 0] 30)).heap.size = w.heap.size + 1 + 1 := by simp [s1]
 generalize W1.alloc (.cells #[.int .i64 0] 30) = W2 at *
 have a4 := heap_alloc_new W2 (.cells #[.int .i64 0, .int .i64 0, .slice a zs.length cap] 135)
 rw [s2] at a4
 have l3 : Later W2 (W2.alloc (.cells #[.int .i64 0, .int .i64 0, .slice a zs.length cap] 135)) := (Below.refl _ _).alloc (Nat.le_refl _) _
 have a5 := (l3.block _ (by omega)).trans a2
 have a6 := (l3.block _ (by omega)).trans a3
 have s3 : (W2.alloc (.cells #[.int .i64 0, .int .i64 0, .slice a zs.length cap] 135)).heap.size = w.heap.size + 1 + 1 + 1 := by simp [s2]
 generalize W2.alloc (.cells #[.int .i64 0, .int .i64 0, .slice a zs.length cap] 135) = W3 at *
 have hb3 := (hb1.trans (l2.mono (by omega))).trans (l3.mono (by omega))
 clear a1 a2 a3 l2 l3 hb1 s1 s2
 refine (measure_any w.heap.size (w.heap.size + 1 + 1) 0 0 _ zs W3 hB hl (hI.below hb3) (by omega) (block_cell a4 0) (block_cell a4 1) (block_cell a4 2) (block_frozen a4 0) (block_frozen a4 1)).mono ?_
 rintro e w4 ⟨hb4, ⟨h1, rfl⟩ | ⟨h1, rfl, k0, k1, k2, f1⟩⟩
 ·have := HM.out
  rw [if_pos h1] at this
  subst this
  exact door_refused _ w.heap.size w.heap.size _ 0 _ w4 ((hb4.block _ (by omega)).trans a6) rfl ((hb4.block _ (by omega)).trans a5) (Nat.le_refl _) rfl rfl (fun w' hb' => ⟨(hb3.trans (hb4.mono (by omega))).trans hb', .inl ⟨h1, rfl⟩⟩)
 have hfit : 20 ≤ hl4 zs ∧ hl4 zs ≤ zs.length ∧ hl4 zs ≤ wat zs 2 ∧ 20 ≤ zs.length := by
  unfold msr at h1
  split at h1
  ·omega
  ·split at h1
   ·omega
   ·split at h1
    ·omega
    ·split at h1
     ·omega
     ·split at h1 <;> omega
 have hn2 := wat_bd hB 2
 cases q
 ·go_wp2_with fail
  by_cases h2 : (zs.length : Int) < wat zs 2
  ·rw [show decide ((zs.length : Int) < wat zs 2) = true from by simpa using h2]
   refine (refuse_yes 3 _).mono ?_
   rintro e w' ⟨rfl, rfl⟩
   have := HM.out
   rw [if_neg (by simp [h1]), if_pos (by simpa [ral] using h2)] at this
   subst this
   exact door_refused _ w.heap.size w.heap.size _ 0 _ w4 ((hb4.block _ (by omega)).trans a6) rfl ((hb4.block _ (by omega)).trans a5) (Nat.le_refl _) rfl rfl (fun w' hb' => ⟨(hb3.trans (hb4.mono (by omega))).trans hb', .inl ⟨by omega, rfl⟩⟩)
  rw [show decide ((zs.length : Int) < wat zs 2) = false from by simpa using h2]
  refine (refuse_no 3 _).mono ?_
  rintro e w' ⟨rfl, rfl⟩
  have hb5 := hb4
  have K0 := k0
  have K1 := k1
  have K2 := k2
  clear hb4 k0 k1 k2
  have hz5 := hb5.size
  go_wp2_with fail
  refine (check_any (w.heap.size + 1 + 1) _ zs w4 hB hl ((hI.below (hb3.trans (hb5.mono (by omega)))).mono (by omega)) hfit.1 hfit.2.1 K0 K2).mono ?_
  rintro e w6 ⟨l6, ⟨h3, rfl⟩ | ⟨h3, rfl⟩⟩
  ·have := HM.out
   rw [if_neg (by simp [h1]), if_neg (by simp [ral]; omega), if_pos h3] at this
   subst this
   exact door_refused _ w.heap.size w.heap.size _ 0 _ w6 ((l6.block _ (by omega)).trans ((hb5.block _ (by omega)).trans a6)) rfl ((l6.block _ (by omega)).trans ((hb5.block _ (by omega)).trans a5)) (Nat.le_refl _) rfl rfl (fun w' hb' => ⟨((hb3.trans (hb5.mono (by omega))).trans (l6.mono (by omega))).trans hb', .inl ⟨h3, rfl⟩⟩)
  obtain ⟨k, hk⟩ := Int.eq_ofNat_of_zero_le (show 0 ≤ hl4 zs by omega)
  obtain ⟨n, hn⟩ := Int.eq_ofNat_of_zero_le (show 0 ≤ wat zs 2 by omega)
  rw [hk] at K0
  rw [hn] at K1
  have c6 := l6.cell K0
  have d6 := l6.cell K1
  have e6 := l6.cell K2
  have p6 := (l6.block _ (by omega)).trans ((hb5.block _ (by omega)).trans a6)
  have q6 := (l6.block _ (by omega)).trans ((hb5.block _ (by omega)).trans a5)
  have hb6 := hb5.trans (l6.mono (by omega))
  have HK := hide hk
  have HN := hide hn
  have hkn : 20 ≤ k ∧ k ≤ n ∧ n ≤ zs.length ∧ n ≤ 65535 := by omega
  clear hk hn
  go_wp2_with fail
  refine (packet_any (w.heap.size + 1 + 1) _ zs k n w6 hB hl ((hI.below (hb3.trans (hb6.mono (by omega)))).mono (Nat.le_trans hb3.size hb6.size)) hkn.1 hkn.2.1 hkn.2.2.1 hkn.2.2.2 c6 d6 e6).mono ?_
  rintro e w7 ⟨so, sd, rfl, hOo, hOd, l7⟩
  have p7 := (l7.block _ (bl9 p6)).trans p6
  have q7 := (l7.block _ (bl9 q6)).trans q6
  have hb7 := hb6.trans (l7.mono (Nat.le_trans (by omega) hb6.size))
  obtain ⟨aso, cso, rfl, _, _⟩ := hOo.slice
  obtain ⟨asd, csd, rfl, _, _⟩ := hOd.slice
  have hlo : ((zs.take k).drop 20).length = min k zs.length - 20 := by simp
  have hld : ((zs.take n).drop k).length = n - k := by simp; omega
  rw [hlo] at hOo ⊢
  rw [hld] at hOd ⊢
  clear hlo hld
  have P7 := block_cell p7
  have F7 := block_frozen p7
  unfold pkt
  go_wp2_with fail
  clear P7 F7
  generalize hV8 : ((((((((w7.setCell ⟨w.heap.size, 0, none⟩ _).setCell ⟨w.heap.size, 1, none⟩ _).setCell ⟨w.heap.size, 2, none⟩ _).setCell ⟨w.heap.size, 3, none⟩ _).setCell ⟨w.heap.size, 4, none⟩ _).setCell ⟨w.heap.size, 5, none⟩ _).setCell ⟨w.heap.size, 6, none⟩ _).setCell ⟨w.heap.size, 7, none⟩ _).setCell ⟨w.heap.size, 8, none⟩ _ = V8
  have hV9 : V8 = putRow w7 w.heap.size 0 [.int .u8 (zs[1]?.getD 0), .int .u16 (wat zs 4), .bool (decide (16384 ≤ wat zs 6 % 32768)), .int .u8 (zs[8]?.getD 0), .int .u8 (zs[9]?.getD 0), .int .u32 (wat4 zs 12), .int .u32 (wat4 zs 16), .slice aso (min k zs.length - 20) cso, .slice asd (n - k) csd] := hV8.symm
  have hb8 : But (fun b => b = w.heap.size) w7 V8 := by rw [hV9]; exact putRow_but (E := fun b => b = w.heap.size) (n := w.heap.size) rfl _ _ _ _ (But.refl _ _)
  have p8 := putRow_all [.int .u8 (zs[1]?.getD 0), .int .u16 (wat zs 4), .bool (decide (16384 ≤ wat zs 6 % 32768)), .int .u8 (zs[8]?.getD 0), .int .u8 (zs[9]?.getD 0), .int .u32 (wat4 zs 12), .int .u32 (wat4 zs 16), .slice aso (min k zs.length - 20) cso, .slice asd (n - k) csd] p7 rfl
  rw [← hV9] at p8
  clear hV8 hV9
  have q8 := (hb8.block _ (bl9 q7) (by omega)).trans q7
  have P8 := block_cell p8
  have F8 := block_frozen p8
  have E8 := block_cell q8
  have G8 := block_frozen q8
  have hs7 : w.heap.size ≤ w7.heap.size := Nat.le_trans hb3.size hb7.size
  have hbW8 := (hb3.trans (hb7.mono (by omega))).trans (hb8.below hs7 (fun j h e => by omega))
  have hOo8 := hOo.but hb8 (fun b h e => by have := hb6.size; omega)
  have hOd8 := hOd.but hb8 (fun b h e => by have := hb6.size; omega)
  refine (refuse_no 3 _).mono ?_
  rintro e w' ⟨rfl, rfl⟩
  go_wp2_with fail
  generalize hV9 : ((((((((V8.setCell ⟨w.heap.size, 0, none⟩ _).setCell ⟨w.heap.size, 1, none⟩ _).setCell ⟨w.heap.size, 2, none⟩ _).setCell ⟨w.heap.size, 3, none⟩ _).setCell ⟨w.heap.size, 4, none⟩ _).setCell ⟨w.heap.size, 5, none⟩ _).setCell ⟨w.heap.size, 6, none⟩ _).setCell ⟨w.heap.size, 7, none⟩ _).setCell ⟨w.heap.size, 8, none⟩ _ = V9
  have hV10 : V9 = putRow V8 w.heap.size 0 [.int .u8 (zs[1]?.getD 0), .int .u16 (wat zs 4), .bool (decide (16384 ≤ wat zs 6 % 32768)), .int .u8 (zs[8]?.getD 0), .int .u8 (zs[9]?.getD 0), .int .u32 (wat4 zs 12), .int .u32 (wat4 zs 16), .slice aso (min k zs.length - 20) cso, .slice asd (n - k) csd] := hV9.symm
  have hb9 : But (fun b => b = w.heap.size) V8 V9 := by rw [hV10]; exact putRow_but (E := fun b => b = w.heap.size) (n := w.heap.size) rfl _ _ _ _ (But.refl _ _)
  have p9 := putRow_all [.int .u8 (zs[1]?.getD 0), .int .u16 (wat zs 4), .bool (decide (16384 ≤ wat zs 6 % 32768)), .int .u8 (zs[8]?.getD 0), .int .u8 (zs[9]?.getD 0), .int .u32 (wat4 zs 12), .int .u32 (wat4 zs 16), .slice aso (min k zs.length - 20) cso, .slice asd (n - k) csd] p8 rfl
  rw [← hV10] at p9
  clear hV9 hV10
  have q9 := (hb9.block _ (bl9 q8) (by omega)).trans q8
  have q10 := heap_set1 q9 0 (.int .i64 0)
  have p10 := (Below.heap_setCell V9 ⟨w.heap.size + 1, 0, none⟩ (.int .i64 0) w.heap.size (by simp)).trans p9
  have hs8 : w.heap.size ≤ V8.heap.size := Nat.le_trans hs7 hb8.size
  have hb10 : Below w.heap.size w (V9.setCell ⟨w.heap.size + 1, 0, none⟩ (.int .i64 0)) := (hbW8.trans (hb9.below hs8 (fun j h e => by omega))).setCell (p := ⟨w.heap.size + 1, 0, none⟩) (Nat.le_succ _) _
  have hbb : But (fun b => b = w.heap.size ∨ b = w.heap.size + 1) V8 (V9.setCell ⟨w.heap.size + 1, 0, none⟩ (.int .i64 0)) := But.setCell (⟨hb9.os, hb9.tape, hb9.output, hb9.size, fun j hj he => hb9.block j hj (fun e => he (.inl e))⟩) (.inr rfl) _
  have := HM.out
  rw [if_neg (by simp [h1]), if_neg (by simp [ral]; omega), if_neg (by simp [h3]), if_neg (by simp)] at this
  refine door_idle _ w.heap.size 0 _ _ _ _ _ _ _ _ _ _ p10 q10 rfl rfl ⟨hb10, .inr ⟨this, _, _, rfl, ?_, ?_⟩⟩
  ·rw [HK.out]
   exact (hOo8.but hbb (fun b h e => by have := hb6.size; omega)).mono (Nat.le_trans hb3.size hb6.size)
  ·rw [HK.out, show ral false zs = (n : Int) from by simp [ral]; exact HN.out]
   exact (hOd8.but hbb (fun b h e => by have := hb6.size; omega)).mono (Nat.le_trans hb3.size hb6.size)
 ·by_cases hmn : (zs.length : Int) < wat zs 2
  ·go_wp2_with fail
   have hb5 : Below (w.heap.size + 1 + 1) W3 (w4.setCell ⟨w.heap.size + 1 + 1, 1, none⟩ (.int .i64 (zs.length : Int))) := hb4.setCell (p := ⟨w.heap.size + 1 + 1, 1, none⟩) (Nat.le_refl _) _
   have K0 : (w4.setCell ⟨w.heap.size + 1 + 1, 1, none⟩ (.int .i64 (zs.length : Int))).cell? ⟨w.heap.size + 1 + 1, 0, none⟩ = some (.int .i64 (hl4 zs)) := (World.cell?_setCell_other _ _ _ _ (by simp)).trans k0
   have K1 : (w4.setCell ⟨w.heap.size + 1 + 1, 1, none⟩ (.int .i64 (zs.length : Int))).cell? ⟨w.heap.size + 1 + 1, 1, none⟩ = some (.int .i64 (zs.length : Int)) := World.cell?_setCell_same _ _ _ k1
   have K2 : (w4.setCell ⟨w.heap.size + 1 + 1, 1, none⟩ (.int .i64 (zs.length : Int))).cell? ⟨w.heap.size + 1 + 1, 2, none⟩ = some (.slice a zs.length cap) := (World.cell?_setCell_other _ _ _ _ (by simp)).trans k2
   generalize w4.setCell ⟨w.heap.size + 1 + 1, 1, none⟩ (.int .i64 (zs.length : Int)) = W5 at *
   clear hb4 k0 k1 k2
   refine (refuse_no 3 _).mono ?_
   rintro e w' ⟨rfl, rfl⟩
   have hz5 := hb5.size
   go_wp2_with fail
   refine (check_any (w.heap.size + 1 + 1) _ zs W5 hB hl ((hI.below (hb3.trans (hb5.mono (by omega)))).mono (by omega)) hfit.1 hfit.2.1 K0 K2).mono ?_
   rintro e w6 ⟨l6, ⟨h3, rfl⟩ | ⟨h3, rfl⟩⟩
   ·have := HM.out
    rw [if_neg (by simp [h1]), if_neg (by simp [ral]; omega), if_pos h3] at this
    subst this
    exact door_refused _ w.heap.size w.heap.size _ 0 _ w6 ((l6.block _ (by omega)).trans ((hb5.block _ (by omega)).trans a6)) rfl ((l6.block _ (by omega)).trans ((hb5.block _ (by omega)).trans a5)) (Nat.le_refl _) rfl rfl (fun w' hb' => ⟨((hb3.trans (hb5.mono (by omega))).trans (l6.mono (by omega))).trans hb', .inl ⟨h3, rfl⟩⟩)
   obtain ⟨k, hk⟩ := Int.eq_ofNat_of_zero_le (show 0 ≤ hl4 zs by omega)
   obtain ⟨n, hn⟩ := Int.eq_ofNat_of_zero_le (show 0 ≤ (zs.length : Int) by omega)
   rw [hk] at K0
   rw [hn] at K1
   have c6 := l6.cell K0
   have d6 := l6.cell K1
   have e6 := l6.cell K2
   have p6 := (l6.block _ (by omega)).trans ((hb5.block _ (by omega)).trans a6)
   have q6 := (l6.block _ (by omega)).trans ((hb5.block _ (by omega)).trans a5)
   have hb6 := hb5.trans (l6.mono (by omega))
   have HK := hide hk
   have HN := hide hn
   have hkn : 20 ≤ k ∧ k ≤ n ∧ n ≤ zs.length ∧ n ≤ 65535 := by omega
   clear hk hn
   go_wp2_with fail
   refine (packet_any (w.heap.size + 1 + 1) _ zs k n w6 hB hl ((hI.below (hb3.trans (hb6.mono (by omega)))).mono (Nat.le_trans hb3.size hb6.size)) hkn.1 hkn.2.1 hkn.2.2.1 hkn.2.2.2 c6 d6 e6).mono ?_
   rintro e w7 ⟨so, sd, rfl, hOo, hOd, l7⟩
   have p7 := (l7.block _ (bl9 p6)).trans p6
   have q7 := (l7.block _ (bl9 q6)).trans q6
   have hb7 := hb6.trans (l7.mono (Nat.le_trans (by omega) hb6.size))
   obtain ⟨aso, cso, rfl, _, _⟩ := hOo.slice
   obtain ⟨asd, csd, rfl, _, _⟩ := hOd.slice
   have hlo : ((zs.take k).drop 20).length = min k zs.length - 20 := by simp
   have hld : ((zs.take n).drop k).length = n - k := by simp; omega
   rw [hlo] at hOo ⊢
   rw [hld] at hOd ⊢
   clear hlo hld
   have P7 := block_cell p7
   have F7 := block_frozen p7
   unfold pkt
   go_wp2_with fail
   clear P7 F7
   generalize hV8 : ((((((((w7.setCell ⟨w.heap.size, 0, none⟩ _).setCell ⟨w.heap.size, 1, none⟩ _).setCell ⟨w.heap.size, 2, none⟩ _).setCell ⟨w.heap.size, 3, none⟩ _).setCell ⟨w.heap.size, 4, none⟩ _).setCell ⟨w.heap.size, 5, none⟩ _).setCell ⟨w.heap.size, 6, none⟩ _).setCell ⟨w.heap.size, 7, none⟩ _).setCell ⟨w.heap.size, 8, none⟩ _ = V8
   have hV9 : V8 = putRow w7 w.heap.size 0 [.int .u8 (zs[1]?.getD 0), .int .u16 (wat zs 4), .bool (decide (16384 ≤ wat zs 6 % 32768)), .int .u8 (zs[8]?.getD 0), .int .u8 (zs[9]?.getD 0), .int .u32 (wat4 zs 12), .int .u32 (wat4 zs 16), .slice aso (min k zs.length - 20) cso, .slice asd (n - k) csd] := hV8.symm
   have hb8 : But (fun b => b = w.heap.size) w7 V8 := by rw [hV9]; exact putRow_but (E := fun b => b = w.heap.size) (n := w.heap.size) rfl _ _ _ _ (But.refl _ _)
   have p8 := putRow_all [.int .u8 (zs[1]?.getD 0), .int .u16 (wat zs 4), .bool (decide (16384 ≤ wat zs 6 % 32768)), .int .u8 (zs[8]?.getD 0), .int .u8 (zs[9]?.getD 0), .int .u32 (wat4 zs 12), .int .u32 (wat4 zs 16), .slice aso (min k zs.length - 20) cso, .slice asd (n - k) csd] p7 rfl
   rw [← hV9] at p8
   clear hV8 hV9
   have q8 := (hb8.block _ (bl9 q7) (by omega)).trans q7
   have P8 := block_cell p8
   have F8 := block_frozen p8
   have E8 := block_cell q8
   have G8 := block_frozen q8
   have hs7 : w.heap.size ≤ w7.heap.size := Nat.le_trans hb3.size hb7.size
   have hbW8 := (hb3.trans (hb7.mono (by omega))).trans (hb8.below hs7 (fun j h e => by omega))
   have hOo8 := hOo.but hb8 (fun b h e => by have := hb6.size; omega)
   have hOd8 := hOd.but hb8 (fun b h e => by have := hb6.size; omega)
   have hw8 : Later w7 w7 := Later.refl _
   by_cases h4 : n - k < 8
   ·rw [show decide (((n - k : Nat) : Int) < 8) = true from by simp; omega]
    refine (refuse_yes 3 _).mono ?_
    rintro e w' ⟨rfl, rfl⟩
    have := HM.out
    rw [if_neg (by simp [h1]), if_neg (by simp [ral]; omega), if_neg (by simp [h3]), if_pos ⟨by simp, by have h5 := HK.out; have h6 := HN.out; simp [ral]; omega⟩] at this
    subst this
    exact door_refused _ w.heap.size w.heap.size _ 0 _ V8 p8 rfl q8 (Nat.le_refl _) rfl rfl (fun w' hb' => ⟨hbW8.trans hb', .inl ⟨by omega, rfl⟩⟩)
   rw [show decide (((n - k : Nat) : Int) < 8) = false from by simp; omega]
   refine (refuse_no 3 _).mono ?_
   rintro e w' ⟨rfl, rfl⟩
   go_wp2_with fail
   generalize hV9 : ((((((((V8.setCell ⟨w.heap.size, 0, none⟩ _).setCell ⟨w.heap.size, 1, none⟩ _).setCell ⟨w.heap.size, 2, none⟩ _).setCell ⟨w.heap.size, 3, none⟩ _).setCell ⟨w.heap.size, 4, none⟩ _).setCell ⟨w.heap.size, 5, none⟩ _).setCell ⟨w.heap.size, 6, none⟩ _).setCell ⟨w.heap.size, 7, none⟩ _).setCell ⟨w.heap.size, 8, none⟩ _ = V9
   have hV10 : V9 = putRow V8 w.heap.size 0 [.int .u8 (zs[1]?.getD 0), .int .u16 (wat zs 4), .bool (decide (16384 ≤ wat zs 6 % 32768)), .int .u8 (zs[8]?.getD 0), .int .u8 (zs[9]?.getD 0), .int .u32 (wat4 zs 12), .int .u32 (wat4 zs 16), .slice aso (min k zs.length - 20) cso, .slice asd (n - k) csd] := hV9.symm
   have hb9 : But (fun b => b = w.heap.size) V8 V9 := by rw [hV10]; exact putRow_but (E := fun b => b = w.heap.size) (n := w.heap.size) rfl _ _ _ _ (But.refl _ _)
   have p9 := putRow_all [.int .u8 (zs[1]?.getD 0), .int .u16 (wat zs 4), .bool (decide (16384 ≤ wat zs 6 % 32768)), .int .u8 (zs[8]?.getD 0), .int .u8 (zs[9]?.getD 0), .int .u32 (wat4 zs 12), .int .u32 (wat4 zs 16), .slice aso (min k zs.length - 20) cso, .slice asd (n - k) csd] p8 rfl
   rw [← hV10] at p9
   clear hV9 hV10
   have q9 := (hb9.block _ (bl9 q8) (by omega)).trans q8
   have q10 := heap_set1 q9 0 (.int .i64 0)
   have p10 := (Below.heap_setCell V9 ⟨w.heap.size + 1, 0, none⟩ (.int .i64 0) w.heap.size (by simp)).trans p9
   have hs8 : w.heap.size ≤ V8.heap.size := Nat.le_trans hs7 hb8.size
   have hb10 : Below w.heap.size w (V9.setCell ⟨w.heap.size + 1, 0, none⟩ (.int .i64 0)) := (hbW8.trans (hb9.below hs8 (fun j h e => by omega))).setCell (p := ⟨w.heap.size + 1, 0, none⟩) (Nat.le_succ _) _
   have hbb : But (fun b => b = w.heap.size ∨ b = w.heap.size + 1) V8 (V9.setCell ⟨w.heap.size + 1, 0, none⟩ (.int .i64 0)) := But.setCell (⟨hb9.os, hb9.tape, hb9.output, hb9.size, fun j hj he => hb9.block j hj (fun e => he (.inl e))⟩) (.inr rfl) _
   have := HM.out
   rw [if_neg (by simp [h1]), if_neg (by simp [ral]; omega), if_neg (by simp [h3]), if_neg (by have h5 := HK.out; have h6 := HN.out; simp [ral]; omega)] at this
   refine door_idle _ w.heap.size 0 _ _ _ _ _ _ _ _ _ _ p10 q10 rfl rfl ⟨hb10, .inr ⟨this, _, _, rfl, ?_, ?_⟩⟩
   ·rw [HK.out]
    exact (hOo8.but hbb (fun b h e => by have := hb6.size; omega)).mono (Nat.le_trans hb3.size hb6.size)
   ·rw [HK.out, show ral true zs = (n : Int) from by simp [ral]; have h6 := HN.out; omega]
    exact (hOd8.but hbb (fun b h e => by have := hb6.size; omega)).mono (Nat.le_trans hb3.size hb6.size)
  ·go_wp2_with fail
   rw [show decide ((zs.length : Int) < wat zs 2) = false from by simpa using hmn]
   have hb5 : Below (w.heap.size + 1 + 1) W3 (w4.setCell ⟨w.heap.size + 1 + 1, 1, none⟩ (.int .i64 (wat zs 2))) := hb4.setCell (p := ⟨w.heap.size + 1 + 1, 1, none⟩) (Nat.le_refl _) _
   have K0 : (w4.setCell ⟨w.heap.size + 1 + 1, 1, none⟩ (.int .i64 (wat zs 2))).cell? ⟨w.heap.size + 1 + 1, 0, none⟩ = some (.int .i64 (hl4 zs)) := (World.cell?_setCell_other _ _ _ _ (by simp)).trans k0
   have K1 : (w4.setCell ⟨w.heap.size + 1 + 1, 1, none⟩ (.int .i64 (wat zs 2))).cell? ⟨w.heap.size + 1 + 1, 1, none⟩ = some (.int .i64 (wat zs 2)) := World.cell?_setCell_same _ _ _ k1
   have K2 : (w4.setCell ⟨w.heap.size + 1 + 1, 1, none⟩ (.int .i64 (wat zs 2))).cell? ⟨w.heap.size + 1 + 1, 2, none⟩ = some (.slice a zs.length cap) := (World.cell?_setCell_other _ _ _ _ (by simp)).trans k2
   generalize w4.setCell ⟨w.heap.size + 1 + 1, 1, none⟩ (.int .i64 (wat zs 2)) = W5 at *
   clear hb4 k0 k1 k2
   refine (refuse_no 3 _).mono ?_
   rintro e w' ⟨rfl, rfl⟩
   have hz5 := hb5.size
   go_wp2_with fail
   refine (check_any (w.heap.size + 1 + 1) _ zs W5 hB hl ((hI.below (hb3.trans (hb5.mono (by omega)))).mono (by omega)) hfit.1 hfit.2.1 K0 K2).mono ?_
   rintro e w6 ⟨l6, ⟨h3, rfl⟩ | ⟨h3, rfl⟩⟩
   ·have := HM.out
    rw [if_neg (by simp [h1]), if_neg (by simp [ral]; omega), if_pos h3] at this
    subst this
    exact door_refused _ w.heap.size w.heap.size _ 0 _ w6 ((l6.block _ (by omega)).trans ((hb5.block _ (by omega)).trans a6)) rfl ((l6.block _ (by omega)).trans ((hb5.block _ (by omega)).trans a5)) (Nat.le_refl _) rfl rfl (fun w' hb' => ⟨((hb3.trans (hb5.mono (by omega))).trans (l6.mono (by omega))).trans hb', .inl ⟨h3, rfl⟩⟩)
   obtain ⟨k, hk⟩ := Int.eq_ofNat_of_zero_le (show 0 ≤ hl4 zs by omega)
   obtain ⟨n, hn⟩ := Int.eq_ofNat_of_zero_le (show 0 ≤ wat zs 2 by omega)
   rw [hk] at K0
   rw [hn] at K1
   have c6 := l6.cell K0
   have d6 := l6.cell K1
   have e6 := l6.cell K2
   have p6 := (l6.block _ (by omega)).trans ((hb5.block _ (by omega)).trans a6)
   have q6 := (l6.block _ (by omega)).trans ((hb5.block _ (by omega)).trans a5)
   have hb6 := hb5.trans (l6.mono (by omega))
   have HK := hide hk
   have HN := hide hn
   have hkn : 20 ≤ k ∧ k ≤ n ∧ n ≤ zs.length ∧ n ≤ 65535 := by omega
   clear hk hn
   go_wp2_with fail
   refine (packet_any (w.heap.size + 1 + 1) _ zs k n w6 hB hl ((hI.below (hb3.trans (hb6.mono (by omega)))).mono (Nat.le_trans hb3.size hb6.size)) hkn.1 hkn.2.1 hkn.2.2.1 hkn.2.2.2 c6 d6 e6).mono ?_
   rintro e w7 ⟨so, sd, rfl, hOo, hOd, l7⟩
   have p7 := (l7.block _ (bl9 p6)).trans p6
   have q7 := (l7.block _ (bl9 q6)).trans q6
   have hb7 := hb6.trans (l7.mono (Nat.le_trans (by omega) hb6.size))
   obtain ⟨aso, cso, rfl, _, _⟩ := hOo.slice
   obtain ⟨asd, csd, rfl, _, _⟩ := hOd.slice
   have hlo : ((zs.take k).drop 20).length = min k zs.length - 20 := by simp
   have hld : ((zs.take n).drop k).length = n - k := by simp; omega
   rw [hlo] at hOo ⊢
   rw [hld] at hOd ⊢
   clear hlo hld
   have P7 := block_cell p7
   have F7 := block_frozen p7
   unfold pkt
   go_wp2_with fail
   clear P7 F7
   generalize hV8 : ((((((((w7.setCell ⟨w.heap.size, 0, none⟩ _).setCell ⟨w.heap.size, 1, none⟩ _).setCell ⟨w.heap.size, 2, none⟩ _).setCell ⟨w.heap.size, 3, none⟩ _).setCell ⟨w.heap.size, 4, none⟩ _).setCell ⟨w.heap.size, 5, none⟩ _).setCell ⟨w.heap.size, 6, none⟩ _).setCell ⟨w.heap.size, 7, none⟩ _).setCell ⟨w.heap.size, 8, none⟩ _ = V8
   have hV9 : V8 = putRow w7 w.heap.size 0 [.int .u8 (zs[1]?.getD 0), .int .u16 (wat zs 4), .bool (decide (16384 ≤ wat zs 6 % 32768)), .int .u8 (zs[8]?.getD 0), .int .u8 (zs[9]?.getD 0), .int .u32 (wat4 zs 12), .int .u32 (wat4 zs 16), .slice aso (min k zs.length - 20) cso, .slice asd (n - k) csd] := hV8.symm
   have hb8 : But (fun b => b = w.heap.size) w7 V8 := by rw [hV9]; exact putRow_but (E := fun b => b = w.heap.size) (n := w.heap.size) rfl _ _ _ _ (But.refl _ _)
   have p8 := putRow_all [.int .u8 (zs[1]?.getD 0), .int .u16 (wat zs 4), .bool (decide (16384 ≤ wat zs 6 % 32768)), .int .u8 (zs[8]?.getD 0), .int .u8 (zs[9]?.getD 0), .int .u32 (wat4 zs 12), .int .u32 (wat4 zs 16), .slice aso (min k zs.length - 20) cso, .slice asd (n - k) csd] p7 rfl
   rw [← hV9] at p8
   clear hV8 hV9
   have q8 := (hb8.block _ (bl9 q7) (by omega)).trans q7
   have P8 := block_cell p8
   have F8 := block_frozen p8
   have E8 := block_cell q8
   have G8 := block_frozen q8
   have hs7 : w.heap.size ≤ w7.heap.size := Nat.le_trans hb3.size hb7.size
   have hbW8 := (hb3.trans (hb7.mono (by omega))).trans (hb8.below hs7 (fun j h e => by omega))
   have hOo8 := hOo.but hb8 (fun b h e => by have := hb6.size; omega)
   have hOd8 := hOd.but hb8 (fun b h e => by have := hb6.size; omega)
   have hw8 : Later w7 w7 := Later.refl _
   by_cases h4 : n - k < 8
   ·rw [show decide (((n - k : Nat) : Int) < 8) = true from by simp; omega]
    refine (refuse_yes 3 _).mono ?_
    rintro e w' ⟨rfl, rfl⟩
    have := HM.out
    rw [if_neg (by simp [h1]), if_neg (by simp [ral]; omega), if_neg (by simp [h3]), if_pos ⟨by simp, by have h5 := HK.out; have h6 := HN.out; simp [ral]; omega⟩] at this
    subst this
    exact door_refused _ w.heap.size w.heap.size _ 0 _ V8 p8 rfl q8 (Nat.le_refl _) rfl rfl (fun w' hb' => ⟨hbW8.trans hb', .inl ⟨by omega, rfl⟩⟩)
   rw [show decide (((n - k : Nat) : Int) < 8) = false from by simp; omega]
   refine (refuse_no 3 _).mono ?_
   rintro e w' ⟨rfl, rfl⟩
   go_wp2_with fail
   generalize hV9 : ((((((((V8.setCell ⟨w.heap.size, 0, none⟩ _).setCell ⟨w.heap.size, 1, none⟩ _).setCell ⟨w.heap.size, 2, none⟩ _).setCell ⟨w.heap.size, 3, none⟩ _).setCell ⟨w.heap.size, 4, none⟩ _).setCell ⟨w.heap.size, 5, none⟩ _).setCell ⟨w.heap.size, 6, none⟩ _).setCell ⟨w.heap.size, 7, none⟩ _).setCell ⟨w.heap.size, 8, none⟩ _ = V9
   have hV10 : V9 = putRow V8 w.heap.size 0 [.int .u8 (zs[1]?.getD 0), .int .u16 (wat zs 4), .bool (decide (16384 ≤ wat zs 6 % 32768)), .int .u8 (zs[8]?.getD 0), .int .u8 (zs[9]?.getD 0), .int .u32 (wat4 zs 12), .int .u32 (wat4 zs 16), .slice aso (min k zs.length - 20) cso, .slice asd (n - k) csd] := hV9.symm
   have hb9 : But (fun b => b = w.heap.size) V8 V9 := by rw [hV10]; exact putRow_but (E := fun b => b = w.heap.size) (n := w.heap.size) rfl _ _ _ _ (But.refl _ _)
   have p9 := putRow_all [.int .u8 (zs[1]?.getD 0), .int .u16 (wat zs 4), .bool (decide (16384 ≤ wat zs 6 % 32768)), .int .u8 (zs[8]?.getD 0), .int .u8 (zs[9]?.getD 0), .int .u32 (wat4 zs 12), .int .u32 (wat4 zs 16), .slice aso (min k zs.length - 20) cso, .slice asd (n - k) csd] p8 rfl
   rw [← hV10] at p9
   clear hV9 hV10
   have q9 := (hb9.block _ (bl9 q8) (by omega)).trans q8
   have q10 := heap_set1 q9 0 (.int .i64 0)
   have p10 := (Below.heap_setCell V9 ⟨w.heap.size + 1, 0, none⟩ (.int .i64 0) w.heap.size (by simp)).trans p9
   have hs8 : w.heap.size ≤ V8.heap.size := Nat.le_trans hs7 hb8.size
   have hb10 : Below w.heap.size w (V9.setCell ⟨w.heap.size + 1, 0, none⟩ (.int .i64 0)) := (hbW8.trans (hb9.below hs8 (fun j h e => by omega))).setCell (p := ⟨w.heap.size + 1, 0, none⟩) (Nat.le_succ _) _
   have hbb : But (fun b => b = w.heap.size ∨ b = w.heap.size + 1) V8 (V9.setCell ⟨w.heap.size + 1, 0, none⟩ (.int .i64 0)) := But.setCell (⟨hb9.os, hb9.tape, hb9.output, hb9.size, fun j hj he => hb9.block j hj (fun e => he (.inl e))⟩) (.inr rfl) _
   have := HM.out
   rw [if_neg (by simp [h1]), if_neg (by simp [ral]; omega), if_neg (by simp [h3]), if_neg (by have h5 := HK.out; have h6 := HN.out; simp [ral]; omega)] at this
   refine door_idle _ w.heap.size 0 _ _ _ _ _ _ _ _ _ _ p10 q10 rfl rfl ⟨hb10, .inr ⟨this, _, _, rfl, ?_, ?_⟩⟩
   ·rw [HK.out]
    exact (hOo8.but hbb (fun b h e => by have := hb6.size; omega)).mono (Nat.le_trans hb3.size hb6.size)
   ·rw [HK.out, show ral true zs = (n : Int) from by simp [ral]; have h6 := HN.out; omega]
    exact (hOd8.but hbb (fun b h e => by have := hb6.size; omega)).mono (Nat.le_trans hb3.size hb6.size)
end Go.Proofs.YtghpakfjpdifaaaGreatDoor

/- What read tells of a header that was built: the mathematics. -/
namespace Go.Proofs.YtghpakfjpdifaaaGreatDoor
open Go.RowKit Go.Shelf
set_option maxRecDepth 100000
set_option linter.unusedVariables false
set_option linter.unusedSimpArgs false

set_option maxHeartbeats 1000000 in
theorem quote_any (sv : Value) (zs : List Int) (w : World) (hB : Mt.By zs) (hl : zs.length ≤ 225000000000000) (hI : Rd w.heap.size w sv zs) :
  Calls Tryz.prog 45 #[sv] w fun e w' => Below w.heap.size w w' ∧
   ((rde true zs ≠ 0 ∧ e = .returned (.tuple #[.agg zc.toArray, .int .i64 (rde true zs)])) ∨
    (rde true zs = 0 ∧ ∃ so sd, e = .returned (.tuple #[pkt zs so sd, .int .i64 0]) ∧ Ow w.heap.size w' so ((zs.take (hl4 zs).toNat).drop 20) ∧ Ow w.heap.size w' sd ((zs.take (ral true zs).toNat).drop (hl4 zs).toNat))) := by
 obtain ⟨a, cap, rfl, hl1, hm1⟩ := hI.slice
 have hb1 : Below w.heap.size w (w.alloc (.cells zc.toArray 26)) := (Below.refl _ _).alloc (Nat.le_refl _) _
 have p1 := heap_alloc_new w (.cells zc.toArray 26)
 have H := hide (read_any true _ zs (w.alloc (.cells zc.toArray 26)) hB hl ((hI.below hb1).mono (by simp)))
 go_enter Tryz.func45, Tryz.ntmps45
 go_wp2_with fail
 refine H.out.mono ?_
 rintro e w2 ⟨hb2, ⟨h, rfl⟩ | ⟨h, so, sd, rfl, hO1, hO2⟩⟩
 ·have p2 := (hb2.block w.heap.size (by simp)).trans p1
  have P2 := block_cell p2
  have F2 := block_frozen p2
  go_wp2_with fail
  generalize hV : ((((((((w2.setCell ⟨w.heap.size, 0, none⟩ _).setCell ⟨w.heap.size, 1, none⟩ _).setCell ⟨w.heap.size, 2, none⟩ _).setCell ⟨w.heap.size, 3, none⟩ _).setCell ⟨w.heap.size, 4, none⟩ _).setCell ⟨w.heap.size, 5, none⟩ _).setCell ⟨w.heap.size, 6, none⟩ _).setCell ⟨w.heap.size, 7, none⟩ _).setCell ⟨w.heap.size, 8, none⟩ _ = V
  have hV9 : V = putRow w2 w.heap.size 0 zc := hV.symm
  have hb8 : But (fun b => b = w.heap.size) w2 V := by rw [hV9]; exact putRow_but (E := fun b => b = w.heap.size) (n := w.heap.size) rfl _ _ _ _ (But.refl _ _)
  have p8 := putRow_all zc p2 rfl
  rw [← hV9] at p8
  clear hV hV9 P2 F2 H
  have P8 := block_cell p8
  have hbW := (hb1.trans (hb2.mono (by simp))).trans (hb8.below (by have := hb2.size; simp at this; omega) (fun j h e => by omega))
  exact bodyPost_ret (v := .tuple #[.agg zc.toArray, .int .i64 (rde true zs)]) (by simp [results, Tryz.results45, go_sem, P8]) rfl ⟨hbW, .inl ⟨h, rfl⟩⟩
 ·have p2 := (hb2.block w.heap.size (by simp)).trans p1
  have P2 := block_cell p2
  have F2 := block_frozen p2
  obtain ⟨aso, cso, rfl, _, _⟩ := hO1.slice
  obtain ⟨asd, csd, rfl, _, _⟩ := hO2.slice
  generalize hL1 : ((zs.take (hl4 zs).toNat).drop 20).length = lo at *
  generalize hL2 : ((zs.take (ral true zs).toNat).drop (hl4 zs).toNat).length = ld at *
  have HL1 := hide hL1
  have HL2 := hide hL2
  clear hL1 hL2
  unfold pkt
  go_wp2_with fail
  generalize hV : ((((((((w2.setCell ⟨w.heap.size, 0, none⟩ _).setCell ⟨w.heap.size, 1, none⟩ _).setCell ⟨w.heap.size, 2, none⟩ _).setCell ⟨w.heap.size, 3, none⟩ _).setCell ⟨w.heap.size, 4, none⟩ _).setCell ⟨w.heap.size, 5, none⟩ _).setCell ⟨w.heap.size, 6, none⟩ _).setCell ⟨w.heap.size, 7, none⟩ _).setCell ⟨w.heap.size, 8, none⟩ _ = V
  have hV9 : V = putRow w2 w.heap.size 0 [.int .u8 (zs[1]?.getD 0), .int .u16 (wat zs 4), .bool (decide (16384 ≤ wat zs 6 % 32768)), .int .u8 (zs[8]?.getD 0), .int .u8 (zs[9]?.getD 0), .int .u32 (wat4 zs 12), .int .u32 (wat4 zs 16), .slice aso lo cso, .slice asd ld csd] := hV.symm
  have hb8 : But (fun b => b = w.heap.size) w2 V := by rw [hV9]; exact putRow_but (E := fun b => b = w.heap.size) (n := w.heap.size) rfl _ _ _ _ (But.refl _ _)
  have p8 := putRow_all [.int .u8 (zs[1]?.getD 0), .int .u16 (wat zs 4), .bool (decide (16384 ≤ wat zs 6 % 32768)), .int .u8 (zs[8]?.getD 0), .int .u8 (zs[9]?.getD 0), .int .u32 (wat4 zs 12), .int .u32 (wat4 zs 16), .slice aso lo cso, .slice asd ld csd] p2 rfl
  rw [← hV9] at p8
  clear hV hV9 P2 F2 H
  have P8 := block_cell p8
  have hbW := (hb1.trans (hb2.mono (by simp))).trans (hb8.below (by have := hb2.size; simp at this; omega) (fun j h e => by omega))
  exact bodyPost_ret (v := .tuple #[pkt zs (.slice aso lo cso) (.slice asd ld csd), .int .i64 0]) (by simp [results, Tryz.results45, go_sem, P8, pkt]) rfl ⟨hbW, .inr ⟨h, _, _, rfl, (hO1.but hb8 (fun b h e => by simp at h; omega)).mono (by simp), (hO2.but hb8 (fun b h e => by simp at h; omega)).mono (by simp)⟩⟩

section
variable (tos id : Int) (keep : Bool) (ttl proto src dst : Int) (zo zd : List Int) (all : Int)
theorem hdr_0 : (hdr tos id keep ttl proto src dst zo all ++ zd)[0]?.getD 0 = 64 + (20 + (zo.length : Int)) / 4 := by
 rw [hdr_eq]; unfold h20; simp
theorem hdr_9 : (hdr tos id keep ttl proto src dst zo all ++ zd)[9]?.getD 0 = proto := by
 rw [hdr_eq]; unfold h20; simp
theorem hl4_hdr (h1 : zo.length ≤ 40) (h2 : zo.length % 4 = 0) : hl4 (hdr tos id keep ttl proto src dst zo all ++ zd) = ((20 + zo.length : Nat) : Int) := by
 unfold hl4
 rw [hdr_0]
 omega
theorem hdr_take : (hdr tos id keep ttl proto src dst zo all ++ zd).take (20 + zo.length) = hdr tos id keep ttl proto src dst zo all := by
 rw [← hdr_len tos id keep ttl proto src dst zo all, List.take_left]
theorem hdr_drop : (hdr tos id keep ttl proto src dst zo all ++ zd).drop (20 + zo.length) = zd := by
 rw [← hdr_len tos id keep ttl proto src dst zo all, List.drop_left]
end

/-- What is built is taken, with what is behind it. -/
theorem rde_built (tos id : Int) (keep : Bool) (ttl proto src dst : Int) (zo zd more : List Int) (h1 : zo.length ≤ 40) (h2 : zo.length % 4 = 0) (hall : 20 + zo.length + zd.length ≤ 65535)
  (hB : Mt.By (h20 tos id keep ttl proto src dst zo.length (20 + zo.length + zd.length) 0 ++ zo)) :
  rde false (hdr tos id keep ttl proto src dst zo (20 + zo.length + zd.length) ++ (zd ++ more)) = 0 := by
 have hlen : (hdr tos id keep ttl proto src dst zo (20 + zo.length + zd.length) ++ (zd ++ more)).length = 20 + zo.length + (zd.length + more.length) := by rw [List.length_append, hdr_len, List.length_append]
 have e0 := hdr_0 tos id keep ttl proto src dst zo (zd ++ more) (20 + zo.length + zd.length)
 have e2 := hdr_wat2 tos id keep ttl proto src dst zo (zd ++ more) (20 + zo.length + zd.length)
 have e3 := hl4_hdr tos id keep ttl proto src dst zo (zd ++ more) (20 + zo.length + zd.length) h1 h2
 have e6 := hdr_wat6 tos id keep ttl proto src dst zo (zd ++ more) (20 + zo.length + zd.length)
 have et := hdr_take tos id keep ttl proto src dst zo (zd ++ more) (20 + zo.length + zd.length)
 have eg := hdr_good tos id keep ttl proto src dst zo (20 + zo.length + zd.length) hB
 rw [← et] at eg
 generalize hdr tos id keep ttl proto src dst zo (20 + zo.length + zd.length) ++ (zd ++ more) = bb at *
 have hm0 : msr bb = 0 := by unfold msr; rw [hlen, e0, e3, e2, if_neg (by omega), if_neg (by omega), if_neg (by omega), if_neg (by omega), if_neg (by omega)]
 have hr : ral false bb = 20 + zo.length + zd.length := by simp [ral, e2]
 have hc : chk bb = 0 := by unfold chk; rw [e3, e6, Int.toNat_natCast, if_neg (by simp [eg]), if_neg (by cases keep <;> simp), if_neg (by cases keep <;> simp)]
 unfold rde
 rw [hm0, hr, hlen, hc, if_neg (by simp), if_neg (by omega), if_neg (by simp), if_neg (by simp)]
end Go.Proofs.YtghpakfjpdifaaaGreatDoor
