import Derived.Test.YtofknbfbmaefoaaGreatDoorX3
import Derived.Test.YtofknbfbmaefoaaGreatDoorX10
import Derived.Test.YtofknbfbmaefoaaGreatDoorX6
import Derived.Test.YtofknbfbmaefoaaGreatDoorX5
import Derived.Test.YtofknbfbmaefoaaGreatDoorX4
import Derived.Test.YtofknbfbmaefoaaGreatDoorX16
namespace Go.Proofs.YtofknbfbmaefoaaGreatDoor
set_option maxHeartbeats 8000000
open Go.RowKit Go.Shelf
set_option maxRecDepth 100000
set_option linter.unusedVariables false
set_option linter.unusedSimpArgs false
def InL (l : List Int) (n : Nat) (cur : Array Value) : Prop := ∀ i, i < n → ∃ x ∈ l, cur[i]? = some (.int .i64 x)
theorem InL.set {l : List Int} {n : Nat} {cur : Array Value} (h : InL l n cur) (j : Nat) (x : Int) (hx : x ∈ l) : InL l n (cur.setIfInBounds j (.int .i64 x)) := fun i hi => by
 by_cases e : i = j
 ·subst e
  obtain ⟨y, _, hy⟩ := h i hi
  have hlt := (bl9 hy)
  exact ⟨x, hx, by simp [hlt]⟩
 ·obtain ⟨y, hy, he⟩ := h i hi
  exact ⟨y, hy, by rw [Array.getElem?_setIfInBounds_ne (fun q => e q.symm)]; exact he⟩
def BkI (l : List Int) (n g : Nat) (z : Nat) (W : World) : Prop := ∃ cur, W.heap[g]? = some (.cells cur 3 (0, 0)) ∧ cur.size = z ∧ InL l n cur
theorem insertI (l : List Int) (n g cap z : Nat) (w : World) (hn1 : 1 ≤ n) (hn : n ≤ 12) (hcap : n ≤ cap ∧ cap ≤ 9223372036854775807) (hzn : n ≤ z) (hh : BkI l n g z w) :
  Calls Tryz.prog 203 #[.slice (some ⟨g, 0, none⟩) n cap, .int .i64 0, .int .i64 (n : Int)] w fun e w' => (∃ v, e = .returned v) ∧ BkI l n g z w' ∧ But (fun b => b = g) w w' := by
 go_enter Tryz.func203, Tryz.ntmps203
 go_wp2_with fail
 go_loopw [6] (fun i wr => ∃ k : Nat, 1 ≤ k ∧ k ≤ n ∧ i = .int .i64 (k : Int) ∧ BkI l n g z wr ∧ But (fun b => b = g) w wr) (fun i _ => n - (intOf i).toNat)
 case atStart => exact ⟨1, by omega, by omega, rfl, hh, But.refl _ _⟩
 case round =>
  obtain ⟨k, hk1, hk, rfl, hcr, hbt⟩ := hrel
  rename World => w1
  by_cases hlt : k < n
  ·have hlt' : (k : Int) < n := by omega
   go_wp2_with fail
   go_loopw [7] (fun j wr => ∃ q : Nat, q ≤ k ∧ j = .int .i64 (q : Int) ∧ BkI l n g z wr ∧ But (fun b => b = g) w wr) (fun j _ => (intOf j).toNat)
   case atStart => exact ⟨k, by omega, rfl, hcr, hbt⟩
   case round =>
    obtain ⟨q, hqk, rfl, hci, hbi⟩ := hrel
    rename World => w2
    by_cases hq0 : q = 0
    ·subst hq0
     go_upto_region 4 with fail
     go_quiet (fail)
     have ld : Later w2 (w2.drewN nq) := below_draw (Below.refl _ _) nq
     have HREL : Hid (∃ k' : Nat, 1 ≤ k' ∧ k' ≤ n ∧ (Value.int .i64 ((k : Int) + 1)) = .int .i64 (k' : Int) ∧ BkI l n g z (w2.drewN nq) ∧ But (fun b => b = g) w (w2.drewN nq)) :=
      ⟨k + 1, by omega, by omega, by simp, (by obtain ⟨cur, h1, h2, h3⟩ := hci; exact ⟨cur, later_keep ld h1, h2, h3⟩), hbi.trans (But.of ld)⟩
     clear hci hbi hcr hbt
     go_wp2_with fail
     go_roundw
     case rel => exact HREL.out
     case measure => simp [intOf]; omega
    ·obtain ⟨p, hpq⟩ : ∃ p, q = p + 1 := ⟨q - 1, by omega⟩
     obtain ⟨cur, hb, hsz, hin⟩ := hci
     obtain ⟨x, hx, hxv⟩ := hin q (by omega)
     obtain ⟨y, hy, hyv⟩ := hin p (by omega)
     have g0 : (0 : Int) < (q : Int) := by omega
     have g00 : 0 < q := by omega
     have e9 : (q : Int) - 1 = (p : Int) := by omega
     have q1 : (p : Int) < n := by omega
     have q2 : (q : Int) < n := by omega
     have hpk : p ≤ k := by omega
     have HPQ := hide hpq
     have HPN := hide (show p ≠ q by omega)
     have HWR : Hid (IntKind.i64.wrap (p : Int) = (p : Int)) := by
      have : (p : Int) < 12 := by omega
      show _ = _
      simp [IntKind.wrap, IntKind.bits, IntKind.signed]
      omega
     clear hpq
     have HB := hide hb
     have HIN := hide hin
     have HXV := hide hxv
     have HYV := hide hyv
     have HSZ := hide hsz
     have HBI := hide hbi
     clear hcr hbt hb hin hxv hyv hsz hbi
     go_upto_region 4 with fail
     refine anyT_begin (R := Later) 15 rfl (by kernel_rfl) ?_
     have ld : Later w2 w2.drew := Later.drew w2
     generalize w2.drew = Wd at *
     have HBd := hide (later_keep ld HB.out)
     have x0 : ∀ v1, Later Wd v1 → v1.cell? ⟨g, q, none⟩ = some (.int .i64 x) := fun v1 h => (block_cell (later_keep h HBd.out) q).trans HXV.out
     have y0 : ∀ v1, Later Wd v1 → v1.cell? ⟨g, p, none⟩ = some (.int .i64 y) := fun v1 h => (block_cell (later_keep h HBd.out) p).trans HYV.out
     refine tV Later.pre 0 rfl rfl ⟨_, fun v h => by (go_simp; rfl), ?_⟩; simp only [Act.put, sA, sB, sC]
     refine tV Later.pre 1 rfl rfl ⟨_, fun v h => by (go_simp; rfl), ?_⟩; simp only [Act.put, sA, sB, sC]
     refine tV Later.pre 2 rfl rfl ?_
     refine ⟨.bool true, fun v1 hv1 => ?_, ?_⟩
     ·go_simp
      try simp [g00, g0]
     simp only [Act.put, sA, sB, sC]
     refine tV Later.pre 3 rfl rfl ⟨_, fun v h => by (go_simp; rfl), ?_⟩; simp only [Act.put, sA, sB, sC]
     refine anyT_valG Later.pre 4 rfl (by kernel_rfl) (by kernel_rfl) (by kernel_rfl) (fun _ _ _ _ h => h) (by rfl) ⟨_, fun v h => by (go_simp; rfl), ?_⟩; simp only [Act.put, sA, sB, sC]
     refine anyT_valG Later.pre 5 rfl (by kernel_rfl) (by kernel_rfl) (by kernel_rfl) (fun _ _ _ _ h => h) (by rfl) ⟨_, fun v h => by (go_simp; rfl), ?_⟩; simp only [Act.put, sA, sB, sC]
     refine anyT_valG Later.pre 6 rfl (by kernel_rfl) (by kernel_rfl) (by kernel_rfl) (fun _ _ _ _ h => h) (by rfl) ⟨_, fun v h => by (go_simp; rfl), ?_⟩; simp only [Act.put, sA, sB, sC]
     refine anyT_valG Later.pre 7 rfl (by kernel_rfl) (by kernel_rfl) (by kernel_rfl) (fun _ _ _ _ h => h) (by rfl) ⟨_, fun v h => by (go_simp; rfl), ?_⟩; simp only [Act.put, sA, sB, sC]
     refine anyT_valG Later.pre 8 rfl (by kernel_rfl) (by kernel_rfl) (by kernel_rfl) (fun _ _ _ _ h => h) (by rfl) ⟨_, fun v h => by (go_simp; rfl), ?_⟩; simp only [Act.put, sA, sB, sC]
     refine anyT_valG Later.pre 9 rfl (by kernel_rfl) (by kernel_rfl) (by kernel_rfl) (fun _ _ _ _ h => h) (by rfl) ⟨_, fun v h => by (go_simp; rfl), ?_⟩; simp only [Act.put, sA, sB, sC]
     refine anyT_valG Later.pre 10 rfl (by kernel_rfl) (by kernel_rfl) (by kernel_rfl) (fun _ _ _ _ h => h) (by rfl) ?_
     refine ⟨.int .i64 (p : Int), fun v1 hv1 => ?_, ?_⟩
     ·go_simp
      rw [HWR.out]
     simp only [Act.put, sA, sB, sC]
     refine anyT_valG Later.pre 11 rfl (by kernel_rfl) (by kernel_rfl) (by kernel_rfl) (fun _ _ _ _ h => h) (by rfl) ⟨_, fun v h => by (go_simp; rfl), ?_⟩; simp only [Act.put, sA, sB, sC]
     refine anyT_valG Later.pre 12 rfl (by kernel_rfl) (by kernel_rfl) (by kernel_rfl) (fun _ _ _ _ h => h) (by rfl) ⟨_, fun v h => by (go_simp; rfl), ?_⟩; simp only [Act.put, sA, sB, sC]
     clear x0 y0
     refine anyT_oneG 13 rfl (by kernel_rfl) (by rfl) ?_
     refine wp_enter 209 #[.int .i64 x, .int .i64 y] (by go_simp) ?_
     refine (lessI x y Wd).mono ?_
     rintro e W1 ⟨⟨b, rfl⟩, hW1⟩
     subst hW1
     refine ⟨Later.refl _, ?_⟩
     simp only [Act.put, sA, sB, sC]
     refine tV Later.pre 14 rfl rfl ⟨_, fun v h => by (go_simp; rfl), ?_⟩; simp only [Act.put, sA, sB, sC]
     refine anyT_done (by kernel_rfl) ?_
     cases b with
     | false =>
      have HREL : Hid (∃ k' : Nat, 1 ≤ k' ∧ k' ≤ n ∧ (Value.int .i64 ((k : Int) + 1)) = .int .i64 (k' : Int) ∧ BkI l n g z W1 ∧ But (fun b => b = g) w W1) :=
       ⟨k + 1, by omega, by omega, by simp, ⟨cur, HBd.out, HSZ.out, HIN.out⟩, HBI.out.trans (But.of ld)⟩
      go_wp2_with fail
      go_roundw
      case rel => exact HREL.out
      case measure => simp [intOf]; omega
     | true =>
      go_upto_region 6 with fail
      refine anyU_begin (R1 := Later) (R2 := But (fun b => b = g)) (D := [15, 17]) 18 rfl (by kernel_rfl) ?_
      have ld2 : Later W1 W1.drew := Later.drew W1
      generalize W1.drew = We at *
      have HE := hide (later_keep ld2 HBd.out)
      have HBe := hide (HBI.out.trans (But.of (ld.trans ld2)))
      have x0 : ∀ v1, Later We v1 → v1.cell? ⟨g, q, none⟩ = some (.int .i64 x) := fun v1 h => (block_cell (later_keep h HE.out) q).trans HXV.out
      have y0 : ∀ v1, Later We v1 → v1.cell? ⟨g, p, none⟩ = some (.int .i64 y) := fun v1 h => (block_cell (later_keep h HE.out) p).trans HYV.out
      clear ld ld2 HBd HB HBI
      refine uP Later.refl (But.refl _) 0 rfl (by rfl) ⟨_, fun v => by (go_simp; rfl), ?_⟩; simp only [Act.put, sA, sB, sC]
      refine uP Later.refl (But.refl _) 1 rfl (by rfl) ⟨_, fun v => by (go_simp; rfl), ?_⟩; simp only [Act.put, sA, sB, sC]
      refine uP Later.refl (But.refl _) 2 rfl (by rfl) ⟨_, fun v => by (go_simp; rfl), ?_⟩; simp only [Act.put, sA, sB, sC]
      refine uP Later.refl (But.refl _) 3 rfl (by rfl) ⟨_, fun v => by (go_simp; rfl), ?_⟩; simp only [Act.put, sA, sB, sC]
      refine uP Later.refl (But.refl _) 4 rfl (by rfl) ?_; refine ⟨.int .i64 (p : Int), fun v1 => ?_, ?_⟩; (· (go_simp; rw [HWR.out])); simp only [Act.put, sA, sB, sC]
      refine uP Later.refl (But.refl _) 5 rfl (by rfl) ⟨_, fun v => by (go_simp; rfl), ?_⟩; simp only [Act.put, sA, sB, sC]
      refine uP Later.refl (But.refl _) 6 rfl (by rfl) ⟨_, fun v => by (go_simp; rfl), ?_⟩; simp only [Act.put, sA, sB, sC]
      refine uP Later.refl (But.refl _) 7 rfl (by rfl) ?_; refine ⟨.int .i64 (p : Int), fun v1 => ?_, ?_⟩; (· (go_simp; rw [HWR.out])); simp only [Act.put, sA, sB, sC]
      refine uP Later.refl (But.refl _) 8 rfl (by rfl) ⟨_, fun v => by (go_simp; rfl), ?_⟩; simp only [Act.put, sA, sB, sC]
      refine anyU_val Later.pre 9 [15, 17] rfl (by rfl) (by rfl) (by kernel_rfl) (by kernel_rfl) (by kernel_rfl) (by kernel_rfl) (by kernel_rfl) (fun _ _ _ _ h => h) (by rfl) ⟨_, fun v h => by (go_simp; rfl), ?_⟩; simp only [Act.put, sA, sB, sC]
      refine uP Later.refl (But.refl _) 10 rfl (by rfl) ⟨_, fun v => by (go_simp; rfl), ?_⟩; simp only [Act.put, sA, sB, sC]
      refine uP Later.refl (But.refl _) 11 rfl (by rfl) ⟨_, fun v => by (go_simp; rfl), ?_⟩; simp only [Act.put, sA, sB, sC]
      refine uP Later.refl (But.refl _) 12 rfl (by rfl) ⟨_, fun v => by (go_simp; rfl), ?_⟩; simp only [Act.put, sA, sB, sC]
      refine anyU_val Later.pre 13 [15, 17] rfl (by rfl) (by rfl) (by kernel_rfl) (by kernel_rfl) (by kernel_rfl) (by kernel_rfl) (by kernel_rfl) (fun _ _ _ _ h => h) (by rfl) ⟨_, fun v h => by (go_simp; rfl), ?_⟩; simp only [Act.put, sA, sB, sC]
      refine uP Later.refl (But.refl _) 14 rfl (by rfl) ⟨_, fun v => by (go_simp; rfl), ?_⟩; simp only [Act.put, sA, sB, sC]
      have c0 := x0 We (Later.refl We)
      clear x0 y0
      have f0 := block_frozen HE.out
      have HS1 := hide (heap_set1 HE.out q (.int .i64 y))
      have HM1 := hide ((But.refl (fun b => b = g) We).setCell (p := ⟨g, q, none⟩) (show _ = _ from rfl) (.int .i64 y))
      refine anyU_one 15 rfl (by kernel_rfl) (by rfl) ?_
      unfold Oper.wp
      go_simp
      refine ⟨Rj_in (by rfl) HM1.out, ?_⟩
      clear c0 f0
      generalize We.setCell ⟨g, q, none⟩ (.int .i64 y) = Wf at *
      have HI1 := hide (HIN.out.set q y hy)
      have HZ1 := hide (show (cur.setIfInBounds q (.int .i64 y)).size = z by rw [Array.size_setIfInBounds]; exact HSZ.out)
      have c0 : Wf.cell? ⟨g, p, none⟩ = some (.int .i64 y) := by
       rw [block_cell HS1.out p, Array.getElem?_setIfInBounds_ne (fun e => HPN.out e.symm)]
       exact HYV.out
      refine uP Later.refl (But.refl _) 16 rfl (by rfl) ⟨_, fun v => by (go_simp; rfl), ?_⟩; simp only [Act.put, sA, sB, sC]
      have f0 := block_frozen HS1.out
      have HS2 := hide (heap_set1 HS1.out p (.int .i64 x))
      have HM2 := hide ((But.refl (fun b => b = g) Wf).setCell (p := ⟨g, p, none⟩) (show _ = _ from rfl) (.int .i64 x))
      refine anyU_one 17 rfl (by kernel_rfl) (by rfl) ?_
      unfold Oper.wp
      go_simp
      refine ⟨Rj_in (by rfl) HM2.out, ?_⟩
      clear c0 f0
      generalize Wf.setCell ⟨g, p, none⟩ (.int .i64 x) = Wg at *
      refine anyU_done (by kernel_rfl) ?_
      have HREL : Hid (∃ q' : Nat, q' ≤ k ∧ (Value.int .i64 (p : Int)) = .int .i64 (q' : Int) ∧ BkI l n g z Wg ∧ But (fun b => b = g) w Wg) :=
       ⟨p, hpk, rfl, ⟨_, HS2.out, by rw [Array.size_setIfInBounds]; exact HZ1.out, HI1.out.set p x hx⟩, (HBe.out.trans HM1.out).trans HM2.out⟩
      go_wp2_with fail
      go_roundw
      case rel => exact HREL.out
      case measure => simp [intOf]; have := HPQ.out; omega
  ·obtain rfl : k = n := by omega
   go_wp2_with fail
   go_end0
   exact ⟨⟨_, rfl⟩, hcr, hbt⟩
theorem pdqI (l : List Int) (n g cap z : Nat) (lm : Int) (w : World) (hn1 : 1 ≤ n) (hn : n ≤ 12) (hcap : n ≤ cap ∧ cap ≤ 9223372036854775807) (hzn : n ≤ z) (hh : BkI l n g z w) :
  Calls Tryz.prog 158 #[.slice (some ⟨g, 0, none⟩) n cap, .int .i64 0, .int .i64 (n : Int), .int .i64 lm] w fun e w' => (∃ v, e = .returned v) ∧ BkI l n g z w' ∧ But (fun b => b = g) w w' := by
 have h1 : (n : Int) ≤ 12 := by omega
 go_enter Tryz.func158, Tryz.ntmps158
 go_wp2_with fail
 go_loopw [1, 2] (fun a b wr => a = .int .i64 0 ∧ b = .int .i64 (n : Int) ∧ wr = w) (fun _ _ _ => 0)
 case atStart => exact ⟨rfl, rfl, rfl⟩
 case round =>
  obtain ⟨rfl, rfl, rfl⟩ := hrel
  go_wp2_with fail
  refine (insertI l n g cap z wr hn1 hn hcap hzn hh).mono ?_
  rintro e w1 ⟨⟨v, rfl⟩, hc, hb⟩
  go_wp2_with fail
  refine bodyPost_ret (results_none rfl _ _ _) rfl ?_
  exact ⟨⟨_, rfl⟩, hc, hb⟩
theorem sortI (l : List Int) (n g cap z : Nat) (w : World) (hn1 : 1 ≤ n) (hn : n ≤ 12) (hcap : n ≤ cap ∧ cap ≤ 9223372036854775807) (hzn : n ≤ z) (hh : BkI l n g z w) :
  Calls Tryz.prog 113 #[.slice (some ⟨g, 0, none⟩) n cap] w fun e w' => (∃ v, e = .returned v) ∧ BkI l n g z w' ∧ But (fun b => b = g) w w' := by
 go_enter Tryz.func113, Tryz.ntmps113
 go_wp2_with fail
 refine (len_few n w hn).mono ?_
 rintro e w1 ⟨⟨v, rfl⟩, rfl⟩
 go_wp2_with fail
 refine (pdqI l n g cap z v w1 hn1 hn hcap hzn hh).mono ?_
 rintro e w2 ⟨⟨v2, rfl⟩, hc, hb⟩
 go_wp2_with fail
 go_end0
 exact ⟨⟨_, rfl⟩, hc, hb⟩
theorem sortI0 (a : Option Addr) (c : Nat) (w : World) : Calls Tryz.prog 113 #[.slice a 0 c] w fun e w' => (∃ v, e = .returned v) ∧ w' = w := by
 go_enter Tryz.func113, Tryz.ntmps113
 go_wp2_with fail
 refine (len_few 0 w (by omega)).mono ?_
 rintro e w1 ⟨⟨v, rfl⟩, rfl⟩
 go_wp2_with fail
 refine (pdqO_none (.slice a 0 c) v w1).mono ?_
 rintro e w2 ⟨⟨v2, rfl⟩, rfl⟩
 go_wp2_with fail
 go_end0
 exact ⟨⟨_, rfl⟩, rfl⟩
def SoQ (es : Array MapEntry) (w w' : World) (e : Ending) : Prop := ∃ (a : Option Addr) (n c : Nat), e = .returned (.slice a n c) ∧ n ≤ es.size ∧ ((n = 0) ∨ ∃ g cur, a = some ⟨g, 0, none⟩ ∧ w.heap.size ≤ g ∧ w'.heap[g]? = some (.cells cur 3 (0, 0)) ∧ ∀ i, i < n → ∃ x e, e ∈ es.toList ∧ e.key = .int .i64 x ∧ cur[i]? = some (.int .i64 x))
theorem sorted_M (B gf cf : Nat) (es : Array MapEntry) (hes : EsI es cf) (hsz : es.size ≤ 12) (w : World) (hB : w.heap[B]? = some (.cells #[.map (some gf)] 74 (0, 0))) (hm : w.heap[gf]? = some (.map es cf)) :
  Calls Tryz.prog 59 #[.func (.func 114) #[] #[.pointer (some ⟨B, 0, none⟩)]] w fun e w' => SoQ es w w' e ∧ Later w w' := by
 have HA := hide (collect_M B gf cf es hes (by omega) w hB hm)
 clear hes hB hm
 go_enter Tryz.func59, Tryz.ntmps59
 go_wp2_with fail
 refine HA.out.mono ?_
 rintro e w1 ⟨l1, v, xs, rfl, hx, hv⟩
 clear HA
 by_cases h0 : xs.length = 0
 ·have hnil : xs = [] := List.eq_nil_of_length_eq_zero h0
  subst hnil
  obtain ⟨a, c, rfl⟩ : ∃ a c, v = .slice a 0 c := by
   obtain ⟨_, ⟨rfl, _⟩ | ⟨b, cap, cur, rfl, _⟩⟩ := hv
   ·exact ⟨_, _, rfl⟩
   ·exact ⟨_, _, rfl⟩
  go_wp2_with fail
  refine (sortI0 a c w1).mono ?_
  rintro e w2 ⟨⟨v, rfl⟩, rfl⟩
  go_wp2_with fail
  go_ret
  exact ⟨⟨a, 0, c, rfl, by omega, .inl rfl⟩, l1⟩
 ·obtain ⟨h1, ⟨_, e0⟩ | ⟨g, cap, cur, rfl, hgb, hh, hlc, hmx, hs, hc⟩⟩ := hv
  ·exact absurd e0 h0
  have hmx' : cap ≤ 9223372036854775807 := by simpa [maxLen] using hmx
  have hxl : xs.length ≤ 12 := Nat.le_trans hx.1 hsz
  have hin : InL xs xs.length cur := fun i hi => by
   refine ⟨xs[i], List.getElem_mem hi, ?_⟩
   have hq := congrArg (fun q => q[i]?) hc
   simp only [Nat.mul_one] at hq
   rw [List.getElem?_take_of_lt hi, List.getElem?_map, List.getElem?_eq_getElem hi] at hq
   rw [← Array.getElem?_toList]
   exact hq
  have hzl : xs.length ≤ cur.size := by
   obtain ⟨y, _, hy⟩ := hin (xs.length - 1) (by omega)
   have := (bl9 hy)
   omega
  have HH := hide hh
  have HX := hide hx
  have HIN := hide hin
  clear hh hx hin hc h1 hs hmx
  go_wp2_with fail
  refine (sortI xs xs.length g cap cur.size w1 (by omega) hxl ⟨hlc, hmx'⟩ hzl ⟨cur, HH.out, rfl, HIN.out⟩).mono ?_
  rintro e w2 ⟨⟨v, rfl⟩, ⟨cur2, hb2, hz2, hi2⟩, hbt⟩
  have L2 : Later w w2 := Below.trans l1 (hbt.below l1.size (fun k hk e => by have e' : k = g := e; omega))
  have HB2 := hide hb2
  have HI2 := hide hi2
  have HL2 := hide L2
  clear hb2 hi2 hbt L2
  go_wp2_with fail
  go_ret
  refine ⟨⟨_, xs.length, cap, rfl, HX.out.1, .inr ⟨g, cur2, rfl, hgb, HB2.out, fun i hi => ?_⟩⟩, HL2.out⟩
  obtain ⟨x, hx, he⟩ := HI2.out i hi
  obtain ⟨e, he1, he2⟩ := HX.out.2 x hx
  exact ⟨x, e, he1, he2, he⟩
theorem app_ownG {W : World} {base : Nat} {e t : TypeId} {i : TypeInfo} {z : Value} {size bytes : Nat} (ht : Tryz.prog.underlying t = some (.slice e)) (hi : Tryz.prog.info? e = some i) (hz : i.zero = some z) (h1 : i.size = size) (h2 : i.bytes = bytes) (hb : bytes ≤ 1000) (hzc : z.cells.size = size) (hs : 0 < size) (v : Value) (n : Nat) (xs0 : List Value) (hown : W.ownsRow base e size v n xs0) (hn : n ≤ 1000) (hbs : base ≤ W.heap.size) (xs : List Value) (hl : xs.length = size) (hx : ∀ u ∈ xs, u.oneCell' = true) (ty : TypeId) :
  ∃ a c W', (Builtin.append_ #[t, t] ty #[v, .slice (some ⟨W.heap.size, 0, none⟩) 1 1]).run Tryz.prog (W.alloc (.cells xs.toArray e)) = .ok (.slice (some a) (n + 1) c) W' ∧ W'.ownsRow base e size (.slice (some a) (n + 1) c) (n + 1) (xs0 ++ xs) ∧ (W.alloc (.cells xs.toArray e)).grownBy W' v.ownBlock := by
 have hm : (n + 1) * bytes ≤ 140737488355328 := Nat.le_trans (Nat.mul_le_mul (show n + 1 ≤ 1001 by omega) hb) (by decide)
 obtain ⟨v', W', hrun, hrow, hg, _⟩ := run_append_own (P := Tryz.prog) (W.alloc (.cells xs.toArray e)) base t ty e i z size bytes ht hi hz h1 h2 hzc hs v n xs0 (hown.alloc _) ⟨W.heap.size, 0, none⟩ 1 1 xs (by omega) (newG W e xs) hx (by unfold maxLen; omega) hm (by simp; omega)
 obtain ⟨g2, cp2, rfl⟩ := ownsRow_succ hrow
 exact ⟨_, _, W', hrun, hrow, hg⟩
def BiQ (s : Gf) (w w' : World) (e : Ending) : Prop := ∃ (xs : List Fl) (a : Option Addr) (c : Nat), e = .returned (.slice a xs.length c) ∧ (∀ f ∈ xs, f ∈ s.fs) ∧ xs.length ≤ s.fs.length ∧ w'.ownsRow w.heap.size 85 1 (.slice a xs.length c) xs.length (xs.map fun f => .pointer (some ⟨f.blk, 0, none⟩))
theorem key_flow {base g : Nat} {W : World} {s : Gf} (h : GF base W g s) {e : MapEntry} (he : e ∈ s.fe.toList) {x : Int} (hx : e.key = .int .i64 x) : ∃ f ∈ s.fs, f.id = x := by
 have h1 : (e.key, e.val) ∈ s.fe.toList.map (fun e => (e.key, e.val)) := List.mem_map.2 ⟨e, he, rfl⟩
 rw [h.fm] at h1
 obtain ⟨f, hf, e2⟩ := List.mem_map.1 h1
 have e3 : (Value.int .i64 f.id) = e.key := congrArg Prod.fst e2
 rw [hx] at e3
 injection e3 with _ e4
 exact ⟨f, hf, e4⟩
theorem fe_size {base g : Nat} {W : World} {s : Gf} (h : GF base W g s) : s.fe.size = s.fs.length := by
 have := congrArg List.length h.fm
 simpa using this
theorem byId_M (base g : Nat) (s : Gf) (w : World) (h : GF base w g s) (hes : EsI s.fe s.cf) (hsz : s.fs.length ≤ 12) (hu : IdU s) : Calls Tryz.prog 26 #[.pointer (some ⟨g, 0, none⟩)] w fun e w' => BiQ s w w' e ∧ Later w w' := by
 have k0 := block_cell h.gc
 unfold gfc at k0
 have la := later_allocG w (.cells #[.map (some s.gf)] 74)
 have HS := hide (sorted_M w.heap.size s.gf s.cf s.fe hes (by rw [fe_size h]; exact hsz) _ (heap_alloc_new w (.cells #[.map (some s.gf)] 74)) (later_keep la h.fl))
 have HLK := hide (fun W (l : Later w W) (f : Fl) (hf : f ∈ s.fs) => look_flow (h.later l) hf hu)
 have HKF := hide (fun (e : MapEntry) (he : e ∈ s.fe.toList) (x : Int) (hx : e.key = .int .i64 x) => key_flow h he hx)
 have HFZ := hide (fe_size h)
 have HG := hide h
 have HSZ := hide hsz
 clear h hes hu hsz
 go_enter Tryz.func26, Tryz.ntmps26
 go_wp2_with fail
 refine (keys_any s.gf w).mono ?_
 rintro e w1 ⟨rfl, rfl⟩
 go_wp2_with fail
 refine HS.out.mono ?_
 rintro e w2 ⟨⟨a, n, c, rfl, hn, hor⟩, l2⟩
 have L2 : Later w w2 := la.trans l2
 have HN := hide (show n ≤ s.fs.length by rw [← HFZ.out]; exact hn)
 have HN12 := hide (show n ≤ 12 by have := HFZ.out; have := HSZ.out; omega)
 have HOR := hide hor
 have hs1 : w.heap.size ≤ w2.heap.size := L2.size
 clear k0 hor hn HS
 go_upto_region 3 with fail
 go_loopw [3, 13] (fun ov iv wr => ∃ (k : Nat) (xs : List Fl) (b : Option Addr) (d : Nat), iv = .int .i64 (k : Int) ∧ k ≤ n ∧ ov = .slice b k d ∧ xs.length = k ∧ (∀ f ∈ xs, f ∈ s.fs) ∧ wr.ownsRow w2.heap.size 85 1 (.slice b k d) k (xs.map fun f => .pointer (some ⟨f.blk, 0, none⟩)) ∧ Later w2 wr) (fun _ iv _ => n - (intOf iv).toNat)
 case atStart => exact ⟨0, [], none, 0, rfl, by omega, rfl, rfl, by simp, World.ownsRow_nil _ _ _ _, Later.refl _⟩
 case round =>
  obtain ⟨k, xs, b, d, rfl, hk, rfl, hxl, hxf, hO, hL⟩ := hrel
  rename World => wr
  by_cases hlt : k < n
  ·have hlt' : (k : Int) < n := by omega
   obtain ⟨g2, cur, rfl, hg2, hb2, hc2⟩ : ∃ g cur, a = some ⟨g, 0, none⟩ ∧ _ ∧ _ ∧ _ := HOR.out.resolve_left (by omega)
   obtain ⟨x, e, he1, he2, he3⟩ := hc2 k hlt
   obtain ⟨f, hf, hid⟩ := HKF.out e he1 x he2
   subst hid
   have hLw : Later w wr := L2.trans hL
   have hcl : wr.cell? ⟨g2, k, none⟩ = some (.int .i64 f.id) := (block_cell (later_keep hL hb2) k).trans he3
   have k1 := block_cell (HG.out.later hLw).gc
   unfold gfc at k1
   have hlk := HLK.out wr hLw f hf
   obtain ⟨i0, hi, hz0, hz1, hz2⟩ := info_parts info_fp
   have hk12 : k ≤ 1000 := by have := HN12.out; omega
   obtain ⟨a1, c1, W1, hr1, hO1, hg1⟩ := app_ownG (W := wr) (base := w2.heap.size) (t := 83) Tryz.underlying83 hi hz0 hz1 hz2 (by decide) rfl (by decide) (.slice b k d) k _ hO hk12 hL.size [.pointer (some ⟨f.blk, 0, none⟩)] rfl (by intro u hu; simp at hu; subst hu; rfl) 83
   have hl1 : Later w2 W1 := (hL.trans (later_allocG wr (.cells [.pointer (some ⟨f.blk, 0, none⟩)].toArray 85))).grown hg1 (hL.trans (later_allocG wr (.cells [.pointer (some ⟨f.blk, 0, none⟩)].toArray 85))).size (fun j hj => (hO.lt j hj).1)
   have HREL : Hid (∃ (k' : Nat) (xs : List Fl) (b : Option Addr) (d : Nat), Value.int .i64 ((k : Int) + 1) = .int .i64 (k' : Int) ∧ k' ≤ n ∧ Value.slice (some a1) (k + 1) c1 = .slice b k' d ∧ xs.length = k' ∧ (∀ f ∈ xs, f ∈ s.fs) ∧ W1.ownsRow w2.heap.size 85 1 (.slice b k' d) k' (xs.map fun f => .pointer (some ⟨f.blk, 0, none⟩)) ∧ Later w2 W1) :=
    ⟨k + 1, xs ++ [f], some a1, c1, rfl, by omega, rfl, by simp [hxl], fun y hy => by
     rcases List.mem_append.1 hy with hy | hy
     ·exact hxf y hy
     ·rw [List.mem_singleton.1 hy]; exact hf, by rw [List.map_append]; exact hO1, hl1⟩
   have HR1 := hide hr1
   clear hr1 hO1 hg1 hl1 hO hxl hxf hL hLw he1 he2 he3 hc2 hb2 hi hz0 hz1 hz2
   go_upto_region 5 with fail
   go_upto_region 6 with (at_builtin; refine wpList_appG rfl (.tmp 17) (.tmp 24) 83 83 rfl _ _ rfl rfl _ _ HR1.out ?_)
   go_wp2_with fail
   go_roundw
   case rel => exact HREL.out
   case measure => simp [intOf]; omega
  ·have hkn : k = n := by omega
   subst hkn
   have HF := hide (show BiQ s w wr (.returned (.slice b k d)) from ⟨xs, b, d, by rw [hxl], hxf, by rw [hxl]; exact HN.out, by rw [hxl]; exact ownG_mono hO hs1⟩)
   have HLL := hide (L2.trans hL)
   clear hO hxl hxf hL
   go_wp2_with fail
   go_ret
   exact ⟨HF.out, HLL.out⟩
theorem row_cell {W : World} {base : Nat} {e : TypeId} {a : Option Addr} {n c : Nat} {xs : List Value} (h : W.ownsRow base e 1 (.slice a n c) n xs) {k : Nat} (hk : k < n) {x : Value} (hx : xs[k]? = some x) : ∃ q, a = some ⟨q, 0, none⟩ ∧ base ≤ q ∧ W.cell? ⟨q, k, none⟩ = some x := by
 obtain ⟨h1, ⟨_, e0⟩ | ⟨q, cp, cur, e2, hb, hh, _, _, _, hc⟩⟩ := h
 ·omega
 ·injection e2 with e3 e4 e5
  refine ⟨q, e3, hb, ?_⟩
  rw [block_cell hh k, ← Array.getElem?_toList]
  have h0 := congrArg (fun l => l[k]?) hc
  simp only [Nat.mul_one] at h0
  rw [List.getElem?_take_of_lt hk, hx] at h0
  exact h0
theorem tunnels_none (base g : Nat) (s : Gf) (f0 : Fl) (w : World) (h : GF base w g s) (hes : EsI s.fe s.cf) (hsz : s.fs.length ≤ 12) (hu : IdU s) (hf0 : w.heap[f0.blk]? = some (.cells (flc f0).toArray 93 (0, 0))) (hms : ∀ f ∈ s.fs, (f.ms == f0.id) = false) :
  Calls Tryz.prog 80 #[.pointer (some ⟨g, 0, none⟩), .pointer (some ⟨f0.blk, 0, none⟩)] w fun e w' => e = .returned (.slice none 0 0) ∧ Later w w' := by
 have HB := hide (byId_M base g s w h hes hsz hu)
 have HFB := hide (fun f hf => (h.fb f hf).2)
 have HF0 := hide hf0
 have HMS := hide hms
 have HSZ := hide hsz
 clear h hes hsz hu hf0 hms
 go_enter Tryz.func80, Tryz.ntmps80
 go_wp2_with fail
 refine HB.out.mono ?_
 rintro e w2 ⟨⟨xs, a, c, rfl, hxf, hxn, hO⟩, l2⟩
 have l2' : Later w w2 := l2
 have hxl12 : xs.length ≤ 12 := Nat.le_trans hxn HSZ.out
 clear hxn
 have HO := hide hO
 have HXF := hide hxf
 clear hO hxf HB l2
 go_upto_region 3 with fail
 go_loopw [5, 11] (fun ov iv wr => ∃ k : Nat, ov = .slice none 0 0 ∧ iv = .int .i64 (k : Int) ∧ k ≤ xs.length ∧ Later w2 wr) (fun _ iv _ => xs.length - (intOf iv).toNat)
 case atStart => exact ⟨0, rfl, rfl, by omega, Later.refl _⟩
 case round =>
  obtain ⟨k, rfl, rfl, hk, hL⟩ := hrel
  rename World => wr
  by_cases hlt : k < xs.length
  ·have hlt' : (k : Int) < xs.length := by omega
   have hk12 : k ≤ 12 := by omega
   obtain ⟨q, rfl, hq, hcl0⟩ := row_cell HO.out hlt (x := .pointer (some ⟨xs[k].blk, 0, none⟩)) (by rw [List.getElem?_map, List.getElem?_eq_getElem hlt]; rfl)
   have hmem : xs[k] ∈ xs := List.getElem_mem hlt
   generalize xs[k] = f at *
   have hcl : wr.cell? ⟨q, k, none⟩ = some (.pointer (some ⟨f.blk, 0, none⟩)) := by
    have hql : q < w2.heap.size := World.block_lt_of_cell? _ _ hcl0
    rw [← hcl0]
    exact Below.cell (p := ⟨q, k, none⟩) hL hql
   have t1 := HMS.out f (HXF.out f hmem)
   have LW : Later w wr := l2'.trans hL
   have HK1 := hide (later_keep LW (HFB.out f (HXF.out f hmem)))
   have HK0 := hide (later_keep LW HF0.out)
   clear hcl0 hmem
   go_upto_region 5 with fail
   have k0 := block_cell HK0.out
   have k1 := block_cell HK1.out
   unfold flc at k0 k1
   go_quiet (fail)
   have ld : Later wr (wr.drewN nq) := below_draw (Below.refl _ _) nq
   have HREL : Hid (∃ k' : Nat, Value.slice none 0 0 = .slice none 0 0 ∧ Value.int .i64 ((k : Int) + 1) = .int .i64 (k' : Int) ∧ k' ≤ xs.length ∧ Later w2 (wr.drewN nq)) := ⟨k + 1, rfl, rfl, by omega, hL.trans ld⟩
   clear k0 k1 hcl
   go_wp2_with fail
   go_roundw
   case rel => exact HREL.out
   case measure => simp [intOf]; omega
  ·have hkn : k = xs.length := by omega
   subst hkn
   have HLL := hide (l2'.trans hL)
   go_wp2_with fail
   go_ret
   exact ⟨rfl, HLL.out⟩
theorem flows_M0 (base g : Nat) (s : Gf) (w : World) (h : GF base w g s) (hfs : s.fs = []) : Calls Tryz.prog 9 #[.pointer (some ⟨g, 0, none⟩)] w fun e w' => e = .returned (.slice none 0 0) ∧ Later w w' := by
 have hfe : s.fe = #[] := by
  have := fe_size h
  rw [hfs] at this
  exact Array.eq_empty_of_size_eq_zero this
 have HB := hide (byId_M base g s w h (by rw [hfe]; exact ⟨by simp, by simp, by simp⟩) (by rw [hfs]; decide) (fun x hx => by rw [hfs] at hx; cases hx))
 clear h
 go_enter Tryz.func9, Tryz.ntmps9
 go_wp2_with fail
 refine HB.out.mono ?_
 rintro e w2 ⟨⟨xs, a, c, rfl, hxf, hxl, hO⟩, l2⟩
 have hnil : xs = [] := by
  rw [hfs] at hxl
  exact List.eq_nil_of_length_eq_zero (by simpa using hxl)
 subst hnil
 clear hO hxf hxl HB
 simp only [List.length_nil]
 go_upto_region 5 with fail
 go_loopw [3, 11] (fun ov iv wr => ov = .slice none 0 0 ∧ iv = .int .i64 0 ∧ wr = w2) (fun _ iv _ => 0)
 case atStart => exact ⟨rfl, rfl, rfl⟩
 case round =>
  obtain ⟨rfl, rfl, rfl⟩ := hrel
  go_wp2_with fail
  go_ret
  exact ⟨rfl, l2⟩
def bkR (r : Rw) : Nat := bki r.p r.s r.d r.a r.b
def rwL (L : List Rw) : Nat → List Rw := fun j => L.filter fun r => bkR r == j
def isT' (t : Tu) (r : Rw) : Bool := isK t.pr t.src t.dst (kyp t.pr t.sp) t.dp r
def UL (L : List Rw) : Prop := ∀ (t : Tu), (L.filter (isT' t)).length ≤ 1
theorem isT'_eq {t : Tu} {r : Rw} : isT' t r = true ↔ r.p = t.pr ∧ r.s = t.src ∧ r.d = t.dst ∧ r.a = kyp t.pr t.sp ∧ r.b = t.dp := by
 unfold isT' isK
 simp
theorem kyp_idem (p a : Int) : kyp p (kyp p a) = kyp p a := by
 unfold kyp
 split <;> simp_all
theorem bkR_is {t : Tu} {r : Rw} (h : isT' t r = true) : bkR r = bkT t := by
 obtain ⟨h1, h2, h3, h4, h5⟩ := isT'_eq.1 h
 unfold bkR bkT bki
 rw [h1, h2, h3, h4, h5, kyp_idem]
theorem rwL_at (L : List Rw) (t : Tu) : (rwL L (bkT t)).filter (isT' t) = L.filter (isT' t) := by
 unfold rwL
 rw [List.filter_filter]
 refine List.filter_congr (fun r _ => ?_)
 cases hb : isT' t r with
 | false => rfl
 | true => simp [bkR_is hb]
theorem findIdx_len {α : Type} (p : α → Bool) : ∀ (l : List α), (l.findIdx? p = none ↔ l.filter p = [])
 | [] => by simp
 | x :: l => by
  rw [List.findIdx?_cons]
  cases hx : p x with
  | true => simp [hx]
  | false => simp [hx, findIdx_len p l]
theorem kxT_def (t : Tu) (ls : Nat → List Rw) : kxT t ls = (ls (bkT t)).findIdx? (isT' t) := rfl
theorem kxL_none (L : List Rw) (t : Tu) : kxT t (rwL L) = none ↔ ∀ r ∈ L, isT' t r = false := by
 rw [kxT_def, findIdx_len, rwL_at, List.filter_eq_nil_iff]
 simp
theorem kxL_some (L : List Rw) (t : Tu) (r : Rw) (hr : r ∈ L) (ht : isT' t r = true) (hu : UL L) : ∃ k, kxT t (rwL L) = some k ∧ (rwL L (bkT t))[k]? = some r := by
 cases hk : kxT t (rwL L) with
 | none => exact absurd ht (by rw [(kxL_none L t).1 hk r hr]; simp)
 | some k =>
  refine ⟨k, rfl, ?_⟩
  rw [kxT_def, List.findIdx?_eq_some_iff_getElem] at hk
  obtain ⟨h1, h2, _⟩ := hk
  have hm : (rwL L (bkT t))[k] ∈ L.filter (isT' t) := by
   rw [← rwL_at]
   exact List.mem_filter.2 ⟨List.getElem_mem h1, h2⟩
  have hm2 : r ∈ L.filter (isT' t) := List.mem_filter.2 ⟨hr, ht⟩
  have hl := hu t
  rw [List.getElem?_eq_getElem h1]
  match hq : L.filter (isT' t), hl, hm, hm2 with
  | [], _, hm, _ => cases hm
  | [x], _, hm, hm2 => rw [List.mem_singleton.1 hm, List.mem_singleton.1 hm2]
  | _ :: _ :: _, hl, _, _ => simp at hl
theorem rwL_add (L : List Rw) (r : Rw) (i : Nat) (hi : bkR r = i) : addL (rwL L) i r = rwL (L ++ [r]) := by
 funext j
 unfold addL rwL
 rw [List.filter_append]
 split
 ·rename_i e
  subst e
  simp [hi]
 ·rename_i e
  simp [hi, Ne.symm e]
theorem modify_map {α : Type} (p : α → Bool) (f : α → α) : ∀ (l : List α) (k : Nat), l.findIdx? p = some k → (l.filter p).length ≤ 1 → l.modify k f = l.map (fun x => if p x then f x else x)
 | [], _, h, _ => by simp at h
 | x :: l, k, h, hu => by
  rw [List.findIdx?_cons] at h
  cases hx : p x with
  | true =>
   rw [hx] at h
   simp only [if_true, Option.some.injEq] at h
   subst h
   rw [List.filter_cons_of_pos hx] at hu
   have hn : l.filter p = [] := by
    cases hq : l.filter p with
    | nil => rfl
    | cons _ _ => rw [hq] at hu; simp at hu
   have hm : l.map (fun x => if p x then f x else x) = l := by
    rw [List.filter_eq_nil_iff] at hn
    conv => rhs; rw [← List.map_id l]
    exact List.map_congr_left (fun y hy => by simp [hn y hy])
   simp [hx, hm]
  | false =>
   rw [hx] at h
   simp only [Bool.false_eq_true, if_false] at h
   cases hk : l.findIdx? p with
   | none => rw [hk] at h; simp at h
   | some k' =>
    rw [hk] at h
    simp only [Option.map_some, Option.some.injEq] at h
    subst h
    rw [List.filter_cons_of_neg (by simp [hx])] at hu
    simp [hx, modify_map p f l k' hk hu]
theorem erase_filter {α : Type} (p : α → Bool) : ∀ (l : List α) (k : Nat), l.findIdx? p = some k → (l.filter p).length ≤ 1 → l.eraseIdx k = l.filter (fun x => !p x)
 | [], _, h, _ => by simp at h
 | x :: l, k, h, hu => by
  rw [List.findIdx?_cons] at h
  cases hx : p x with
  | true =>
   rw [hx] at h
   simp only [if_true, Option.some.injEq] at h
   subst h
   rw [List.filter_cons_of_pos hx] at hu
   have hn : l.filter p = [] := by
    cases hq : l.filter p with
    | nil => rfl
    | cons _ _ => rw [hq] at hu; simp at hu
   have hm : l.filter (fun x => !p x) = l := by
    rw [List.filter_eq_nil_iff] at hn
    exact List.filter_eq_self.2 (fun y hy => by simp [hn y hy])
   simp [hx, hm]
  | false =>
   rw [hx] at h
   simp only [Bool.false_eq_true, if_false] at h
   cases hk : l.findIdx? p with
   | none => rw [hk] at h; simp at h
   | some k' =>
    rw [hk] at h
    simp only [Option.map_some, Option.some.injEq] at h
    subst h
    rw [List.filter_cons_of_neg (by simp [hx])] at hu
    simp [hx, erase_filter p l k' hk hu]
def reT (till tn : Int) (r : Rw) : Rw := { r with till := till, turn := tn }
def mvR (t : Tu) (till tn : Int) (L : List Rw) : List Rw := L.map fun r => if isT' t r then reT till tn r else r
def dpR (t : Tu) (L : List Rw) : List Rw := L.filter fun r => !isT' t r
theorem isT'_re (t : Tu) (till tn : Int) (r : Rw) : isT' t (reT till tn r) = isT' t r := rfl
theorem bkR_re (till tn : Int) (r : Rw) : bkR (reT till tn r) = bkR r := rfl
theorem mvR_mem {t : Tu} {till tn : Int} {L : List Rw} {x : Rw} (h : x ∈ mvR t till tn L) : ∃ r ∈ L, x = if isT' t r then reT till tn r else r := by
 obtain ⟨r, hr, rfl⟩ := List.mem_map.1 h
 exact ⟨r, hr, rfl⟩
theorem mvG (bk : Rw → Nat) (p : Rw → Bool) (f : Rw → Rw) (i k : Nat) (L : List Rw) (hb : ∀ r, bk (f r) = bk r) (hp : ∀ r, p r = true → bk r = i) (hk : (L.filter (fun r => bk r == i)).findIdx? p = some k) (hu : (L.filter p).length ≤ 1) (j : Nat) :
  (if j = i then (L.filter (fun r => bk r == i)).modify k f else L.filter (fun r => bk r == j)) = (L.map (fun r => if p r then f r else r)).filter (fun r => bk r == j) := by
 have he : (L.map (fun r => if p r then f r else r)).filter (fun r => bk r == j) = (L.filter (fun r => bk r == j)).map (fun r => if p r then f r else r) := by
  rw [List.filter_map]
  refine congrArg (List.map _) (List.filter_congr (fun r _ => ?_))
  have h2 : bk (if p r then f r else r) = bk r := by
   split
   ·exact hb _
   ·rfl
  simp only [Function.comp, h2]
 rw [he]
 have hl : ((L.filter (fun r => bk r == i)).filter p).length ≤ 1 := by
  rw [List.filter_filter]
  refine Nat.le_trans (Nat.le_of_eq ?_) hu
  refine congrArg List.length (List.filter_congr (fun r _ => ?_))
  cases hq : p r with
  | false => rfl
  | true => simp [hp r hq]
 split
 ·rename_i e
  rw [e]
  exact modify_map p f _ k hk hl
 ·rename_i e
  refine (List.map_id (L.filter (fun r => bk r == j))).symm.trans (List.map_congr_left (fun r hr => ?_))
  have hb : p r = false := by
   cases hq : p r with
   | false => rfl
   | true =>
    have := (List.mem_filter.1 hr).2
    simp [hp r hq] at this
    exact absurd this.symm e
  simp [hb]
theorem dpG (bk : Rw → Nat) (p : Rw → Bool) (i k : Nat) (L : List Rw) (hp : ∀ r, p r = true → bk r = i) (hk : (L.filter (fun r => bk r == i)).findIdx? p = some k) (hu : (L.filter p).length ≤ 1) (j : Nat) :
  (if j = i then (L.filter (fun r => bk r == i)).eraseIdx k else L.filter (fun r => bk r == j)) = (L.filter (fun r => !p r)).filter (fun r => bk r == j) := by
 have he : (L.filter (fun r => !p r)).filter (fun r => bk r == j) = (L.filter (fun r => bk r == j)).filter (fun r => !p r) := by
  rw [List.filter_filter, List.filter_filter]
  exact List.filter_congr (fun r _ => Bool.and_comm _ _)
 rw [he]
 have hl : ((L.filter (fun r => bk r == i)).filter p).length ≤ 1 := by
  rw [List.filter_filter]
  refine Nat.le_trans (Nat.le_of_eq ?_) hu
  refine congrArg List.length (List.filter_congr (fun r _ => ?_))
  cases hq : p r with
  | false => rfl
  | true => simp [hp r hq]
 split
 ·rename_i e
  rw [e]
  exact erase_filter p _ k hk hl
 ·rename_i e
  symm
  refine List.filter_eq_self.2 (fun r hr => ?_)
  have hb : p r = false := by
   cases hq : p r with
   | false => rfl
   | true =>
    have := (List.mem_filter.1 hr).2
    simp [hp r hq] at this
    exact absurd this.symm e
  simp [hb]
theorem rwL_mv (L : List Rw) (t : Tu) (till tn : Int) (k : Nat) (hk : kxT t (rwL L) = some k) (hu : UL L) : mvL (rwL L) (bkT t) k till tn = rwL (mvR t till tn L) :=
 funext (mvG bkR (isT' t) (reT till tn) (bkT t) k L (bkR_re till tn) (fun r h => bkR_is h) hk (hu t))
theorem rwL_dp (L : List Rw) (t : Tu) (k : Nat) (hk : kxT t (rwL L) = some k) (hu : UL L) : dpL (rwL L) (bkT t) k = rwL (dpR t L) :=
 funext (dpG bkR (isT' t) (bkT t) k L (fun r h => bkR_is h) hk (hu t))
theorem UL_mv {L : List Rw} (t : Tu) (till tn : Int) (h : UL L) : UL (mvR t till tn L) := fun u => by
 unfold mvR
 rw [List.filter_map, List.length_map]
 have : (isT' u ∘ fun r => if isT' t r = true then reT till tn r else r) = isT' u := by
  funext r
  show isT' u (if isT' t r = true then reT till tn r else r) = _
  split
  ·rw [isT'_re]
  ·rfl
 rw [this]
 exact h u
theorem UL_dp {L : List Rw} (t : Tu) (h : UL L) : UL (dpR t L) := fun u => by
 unfold dpR
 rw [List.filter_filter]
 refine Nat.le_trans ?_ (h u)
 rw [← List.filter_filter]
 rw [List.filter_filter, show (fun a => isT' u a && !isT' t a) = (fun a => (!isT' t a) && isT' u a) from funext fun a => Bool.and_comm _ _, ← List.filter_filter]
 exact List.length_filter_le _ _
theorem UL_add {L : List Rw} (r : Rw) (t : Tu) (hr : isT' t r = true) (hn : ∀ x ∈ L, isT' t x = false) (h : UL L) : UL (L ++ [r]) := fun u => by
 rw [List.filter_append, List.length_append]
 cases hb : isT' u r with
 | false => simp [hb]; exact h u
 | true =>
  have : L.filter (isT' u) = [] := by
   rw [List.filter_eq_nil_iff]
   intro x hx hux
   have h1 := isT'_eq.1 hr
   have h2 := isT'_eq.1 hb
   have h3 := isT'_eq.1 hux
   have : isT' t x = true := isT'_eq.2 ⟨by rw [h3.1, ← h2.1, h1.1], by rw [h3.2.1, ← h2.2.1, h1.2.1], by rw [h3.2.2.1, ← h2.2.2.1, h1.2.2.1], by rw [h3.2.2.2.1, ← h2.2.2.2.1, h1.2.2.2.1], by rw [h3.2.2.2.2, ← h2.2.2.2.2, h1.2.2.2.2]⟩
   rw [hn x hx] at this
   cases this
  simp [this, hb]
theorem UL_nil : UL [] := fun u => by simp
theorem ptT_L (t : Tu) (id till c tn : Int) (L : List Rw) (hm : mayb till = true) (hc : c < 128) (hn : ∀ r ∈ L, isT' t r = false) : ptT t id till (c, tn, rwL L) = (c + 1, tn + 1, rwL (L ++ [roT t id till (tn + 1)])) := by
 rw [ptT_yes t id till c tn (rwL L) hm hc ((kxL_none L t).2 hn)]
 rw [rwL_add L _ _ (bkR_is (isT'_eq.2 ⟨rfl, rfl, rfl, rfl, rfl⟩))]
theorem mvT_L (t : Tu) (till tn : Int) (L : List Rw) (r : Rw) (hm : mayb till = true) (hr : r ∈ L) (ht : isT' t r = true) (hu : UL L) : mvT t till (tn, rwL L) = (tn + 1, rwL (mvR t till (tn + 1) L)) := by
 obtain ⟨k, hk, _⟩ := kxL_some L t r hr ht hu
 rw [mvT_yes t till tn (rwL L) k hm hk, rwL_mv L t till (tn + 1) k hk hu]
theorem allL_mem (L : List Rw) (r : Rw) : r ∈ allR (rwL L) ↔ r ∈ L := by
 unfold allR rwL
 rw [List.mem_flatMap]
 constructor
 ·rintro ⟨j, _, h⟩
  exact (List.mem_filter.1 h).1
 ·intro h
  refine ⟨bkR r, ?_, List.mem_filter.2 ⟨h, by simp⟩⟩
  rw [List.mem_range]
  exact bki_lt _ _ _ _ _
theorem tdropK (base bt : Nat) (lim cnt trn : Int) (ls : Nat → List Rw) (p s d a b : Int) (w : World) (hT : TB base w bt lim cnt trn ls) (hu : ∀ i, UQy (ls i)) (hs : 0 ≤ s ∧ s ≤ 4294967295) (hd : 0 ≤ d ∧ d ≤ 4294967295) (ha : 0 ≤ a ∧ a ≤ 65535) (hb : 0 ≤ b ∧ b ≤ 65535) (hbs : base ≤ w.heap.size) (hcn : -4096 ≤ cnt ∧ cnt ≤ 4096) :
  Calls Tryz.prog 77 #[.pointer (some ⟨bt, 0, none⟩), .agg #[.int .u8 p, .int .u32 s, .int .u32 d, .int .u16 a, .int .u16 b]] w fun e w' => e = .returned (.int .i64 (dpe ls p s d a b)) ∧ (Below base w w' ∧ KT w w' ∧ KM w w' ∧ KG base w w') ∧
   ((kx p s d a b ls = none ∧ TB base w' bt lim cnt trn ls) ∨ ∃ k, kx p s d a b ls = some k ∧ TB base w' bt lim (cnt - 1) trn (dpL ls (bki p s d a b) k)) := by
 obtain ⟨vs, hT⟩ := hT
 have lb0 : Later w (w.alloc (.cells #[.int .u8 p, .int .u32 s, .int .u32 d, .int .u16 a, .int .u16 b] 68)) := (Below.refl _ _).alloc (Nat.le_refl _) _
 have t0 := heap_alloc_new w (.cells #[.int .u8 p, .int .u32 s, .int .u32 d, .int .u16 a, .int .u16 b] 68)
 have k0 := block_cell t0
 go_enter Tryz.func77, Tryz.ntmps77
 go_wp2_with fail
 generalize w.alloc _ = w0 at *
 refine (tfind_any base bt lim cnt trn vs ls p s d a b w0 (hT.later lb0) hs hd ha hb).mono ?_
 rintro e w1 ⟨hb1, hor⟩
 have l1 : Later w0 w1 := hb1
 have L1 := lb0.trans l1
 clear k0
 rcases hor with ⟨hn, rfl⟩ | ⟨k, g2, cap, hk, hkl, hv, rfl⟩
 ·have HN := hide hn
  clear hn
  go_wp2_with fail
  go_ret
  exact ⟨by unfold dpe; rw [if_pos HN.out]; rfl, ⟨L1.mono hbs, KT.of_later L1, KM.of_later L1, KG.of_later L1⟩, .inl ⟨HN.out, vs, hT.later L1⟩⟩
 ·have HK := hide hk
  have HV := hide hv
  clear hk hv
  have t1 := later_keep l1 t0
  have hT1 := hT.later L1
  go_upto_region 5 with fail
  refine anyT_begin (R := But (fun g => g = bt ∨ (vs[bki p s d a b]?.getD undef).ownBlock = some g)) 8 rfl (by kernel_rfl) ?_
  have ld : Later w1 w1.drew := Later.drew w1
  have td := later_keep ld t1
  have LD := L1.trans ld
  generalize w1.drew = Wd at *
  have hTd := hT.later LD
  have hbtl := (bl9 hT.2.2.1)
  have hvl : ∀ x, (vs[bki p s d a b]?.getD undef).ownBlock = some x → base ≤ x ∧ x < w.heap.size := fun x hx => (hT.2.2.2.1 _ (bki_lt p s d a b)).lt x hx
  have hq : ∀ v1, But (fun g => g = bt ∨ (vs[bki p s d a b]?.getD undef).ownBlock = some g) Wd v1 → ∀ j, v1.cell? ⟨w.heap.size, j, none⟩ = #[Value.int .u8 p, .int .u32 s, .int .u32 d, .int .u16 a, .int .u16 b][j]? := fun v1 hv => block_cell ((hv.block w.heap.size (bl9 td) (fun hE => by rcases hE with e | e; (· omega); (· have := (hvl _ e).2; omega))).trans td)
  refine tV (But.pre _) 0 rfl rfl ⟨_, fun v h => by (go_simp; rfl), ?_⟩; simp only [Act.put, sA, sB, sC]
  refine tV (But.pre _) 1 rfl rfl ⟨_, fun v h => by (go_simp; rfl), ?_⟩; simp only [Act.put, sA, sB, sC]
  refine tV (But.pre _) 2 rfl rfl ⟨_, fun v h => by (go_simp; rfl), ?_⟩; simp only [Act.put, sA, sB, sC]
  refine tV (But.pre _) 3 rfl rfl ⟨_, fun v h => by (go_simp; rfl), ?_⟩; simp only [Act.put, sA, sB, sC]
  refine tV (But.pre _) 5 rfl rfl ⟨_, fun v h => by (go_simp; rfl), ?_⟩; simp only [Act.put, sA, sB, sC]
  clear hq
  refine anyT_one 4 rfl (by kernel_rfl) rfl ?_
  refine wp_enter 137 #[.agg #[.int .u8 p, .int .u32 s, .int .u32 d, .int .u16 a, .int .u16 b]] (by go_simp) ?_
  refine (hash_any p s d a b Wd hs hd ha hb).mono ?_
  rintro e W1 ⟨rfl, hbW1⟩
  have k1 : Later Wd W1 := hbW1
  refine ⟨But.of k1, ?_⟩
  simp only [Act.put, sA, sB, sC]
  refine anyT_one 6 rfl (by kernel_rfl) rfl ?_
  refine wp_enter 138 #[.agg #[.int .u8 p, .int .u32 s, .int .u32 d, .int .u16 a, .int .u16 b]] (by go_simp) ?_
  refine (of_key p s d a b W1).mono ?_
  rintro e W2 ⟨gk, rfl, hbW2, hgk, hgc⟩
  have k2 : Later W1 W2 := hbW2
  refine ⟨But.of k2, ?_⟩
  simp only [Act.put, sA, sB, sC]
  have LW2 := LD.trans (k1.trans k2)
  refine anyT_one 7 rfl (by kernel_rfl) rfl ?_
  refine wp_enter 136 #[.pointer (some ⟨bt, 3, none⟩), .int .u32 (hsh (tb p s d (kyp p a) b)), .func (.func 179) #[] #[.pointer (some ⟨gk, 0, none⟩)]] (by go_simp) ?_
  refine (tremove_any base bt gk lim cnt trn vs ls (hsh (tb p s d (kyp p a) b)) (bki p s d a b) k p s d (kyp p a) b W2 (hT.later LW2) (hsh_tb _ _ _ _ _) rfl (hu _) HK.out hgc).mono ?_
  rintro e W4 ⟨rfl, ⟨vs4, hT5⟩, hb4⟩
  refine ⟨hb4, ?_⟩
  simp only [Act.put, sA, sB, sC]
  refine anyT_done (by kernel_rfl) ?_
  have hE : ∀ x, (x = bt ∨ (vs[bki p s d a b]?.getD undef).ownBlock = some x) → base ≤ x := fun x e => by
   rcases e with rfl | e
   ·exact hT.2.1
   ·exact (hvl x e).1
  have hbz : Below base w W4 := (LW2.mono hbs).trans (hb4.below (Nat.le_trans hbs LW2.size) (fun x hx e => by have := hE x e; omega))
  have h6 := hT5.2.2.1
  have kk := block_cell h6
  have k6 : W4.cell? ⟨bt, 1, none⟩ = some (.int .i64 cnt) := by rw [kk]; rfl
  have f6 := block_frozen h6
  clear kk
  have hV3 := heap_set1 h6 1 (.int .i64 (cnt - 1))
  have hbV1 : But (fun g => g = bt) W4 (W4.setCell ⟨bt, 1, none⟩ (.int .i64 (cnt - 1))) := (But.refl (fun g => g = bt) _).setCell (p := ⟨bt, 1, none⟩) rfl _
  have hTf := TBv.but (c2 := cnt - 1) hT5 hbV1 (by rw [hV3]; rfl)
  have hbf : Below base w (W4.setCell ⟨bt, 1, none⟩ (.int .i64 (cnt - 1))) := hbz.trans (hbV1.below (Nat.le_trans hbs hbz.size) (fun x hx e => by have := hT.2.1; omega))
  have hEf : But (fun x => x = bt ∨ (vs[bki p s d a b]?.getD undef).ownBlock = some x) w (W4.setCell ⟨bt, 1, none⟩ (.int .i64 (cnt - 1))) := ((But.of LW2).trans hb4).trans ⟨hbV1.os, hbV1.tape, hbV1.output, hbV1.size, fun x hx he => hbV1.block x hx (fun e => he (.inl e))⟩
  have hkt := KT.of_but hEf (hT.typed _ (bki_lt p s d a b))
  have hkm := KM.of_but hEf (hT.typed _ (bki_lt p s d a b))
  have hkg : KG base w (W4.setCell ⟨bt, 1, none⟩ (.int .i64 (cnt - 1))) := KG.of_but hEf (fun k e => ⟨hE k e, fun ob ho => by
   obtain ⟨cur, tt, fz, hh, ht⟩ := hT.typed _ (bki_lt p s d a b) k e
   rw [hh] at ho
   cases ho
   show gTs.contains _ = true
   rcases ht with ht | ht <;> (rw [ht]; decide)⟩)
  have HTF := hide hTf
  have HKK := hide (And.intro hkt (And.intro hkm hkg))
  clear hkt hkm hkg
  have c1 : -9223372036854775808 ≤ cnt - 1 := by omega
  have c2 : cnt - 1 ≤ 9223372036854775807 := by omega
  clear hTf hV3 hbV1
  go_wp2_with fail
  go_ret
  exact ⟨by unfold dpe; rw [HK.out, if_neg (by simp)]; rfl, ⟨hbf, HKK.out.1, HKK.out.2.1, HKK.out.2.2⟩, .inr ⟨k, HK.out, _, HTF.out⟩⟩
theorem filter_two {α : Type} (p : α → Bool) (l : List α) (i j : Nat) (hi : i < l.length) (hj : j < l.length) (h : i < j) (h1 : p l[i] = true) (h2 : p l[j] = true) : 2 ≤ (l.filter p).length := by
 have e : l.filter p = (l.take j).filter p ++ (l.drop j).filter p := by rw [← List.filter_append, List.take_append_drop]
 rw [e, List.length_append]
 have m1 : l[i] ∈ (l.take j).filter p := List.mem_filter.2 ⟨List.mem_take_iff_getElem.2 ⟨i, by omega, rfl⟩, h1⟩
 have m2 : l[j] ∈ (l.drop j).filter p := List.mem_filter.2 ⟨List.mem_drop_iff_getElem.2 ⟨0, by omega, by simp⟩, h2⟩
 have q1 := List.length_pos_of_mem m1
 have q2 := List.length_pos_of_mem m2
 omega
theorem UL.uq {L : List Rw} (h : UL L) (h17 : ∀ r ∈ L, r.p = 17) (n : Nat) : UQy (rwL L n) := by
 intro kp ks kd ka kb i j hi hj h1 h2
 have hm : (rwL L n)[i] ∈ L := (List.mem_filter.1 (List.getElem_mem hi)).1
 have hkp : kp = 17 := by
  have q := h17 _ hm
  unfold isK at h1
  simp only [Bool.and_eq_true, beq_iff_eq] at h1
  omega
 subst hkp
 have hl : ((rwL L n).filter (isK 17 ks kd ka kb)).length ≤ 1 := by
  refine Nat.le_trans ?_ (h ⟨17, ks, kd, ka, kb⟩)
  show ((rwL L n).filter (isK 17 ks kd ka kb)).length ≤ (L.filter (isK 17 ks kd ka kb)).length
  unfold rwL
  rw [List.filter_filter, show (fun a => isK 17 ks kd ka kb a && (bkR a == n)) = (fun a => (bkR a == n) && isK 17 ks kd ka kb a) from funext fun a => Bool.and_comm _ _, ← List.filter_filter]
  exact List.length_filter_le _ _
 rcases Nat.lt_trichotomy i j with q | q | q
 ·have := filter_two _ _ i j hi hj q h1 h2
  omega
 ·exact q
 ·have := filter_two _ _ j i hj hi q h2 h1
  omega
theorem dropF (base gt : Nat) (cnt trn : Int) (L : List Rw) (t : Tu) (r : Rw) (w : World) (hT : TB base w gt 128 cnt trn (rwL L)) (hr : r ∈ L) (ht : isT' t r = true) (hU : UL L) (h17 : ∀ r ∈ L, r.p = 17) (hB : TuB t) (hbs : base ≤ w.heap.size) (hcn : 0 ≤ cnt ∧ cnt ≤ 1000) :
  Calls Tryz.prog 77 #[.pointer (some ⟨gt, 0, none⟩), .agg #[.int .u8 t.pr, .int .u32 t.src, .int .u32 t.dst, .int .u16 t.sp, .int .u16 t.dp]] w fun e w' => ∃ ev : Int, e = .returned (.int .i64 ev) ∧ TB base w' gt 128 (cnt - 1) trn (rwL (dpR t L)) ∧ KT w w' ∧ KM w w' ∧ KG base w w' := by
 refine (tdropK base gt 128 cnt trn (rwL L) t.pr t.src t.dst t.sp t.dp w hT (fun i => hU.uq h17 i) hB.1 hB.2.1 hB.2.2.1 hB.2.2.2 hbs (by omega)).mono ?_
 rintro e w' ⟨he, ⟨_, hk, hm, hg⟩, hor⟩
 obtain ⟨k, hk1, _⟩ := kxL_some L t r hr ht hU
 rcases hor with ⟨hn, _⟩ | ⟨k2, hk2, hT2⟩
 ·exact absurd (hk1.symm.trans hn) (by simp)
 ·refine ⟨_, he, ?_, hk, hm, hg⟩
  have e := rwL_dp L t k2 hk2 hU
  rw [← e]
  exact hT2
def keyIs (z : Int) (e : MapEntry) : Bool := match e.key with | .int .i64 k => k == z | _ => false
theorem findG_idx (z : Int) : ∀ (l : List MapEntry) (i : Nat), (∀ e ∈ l, ∃ k : Int, e.key = .int .i64 k) → ∀ j, l.findIdx? (keyIs z) = some j → ∃ v, Instr.findNow (.int .i64) (.int .i64 z) l i = some (some (i + j, v))
 | [], _, _, j, h => by simp at h
 | e :: l, i, hk, j, h => by
  obtain ⟨k, hk1⟩ := hk e (by simp)
  rw [List.findIdx?_cons] at h
  unfold Instr.findNow
  by_cases hz : k = z
  ·have h1 : Instr.sameNow (.int .i64) (.int .i64 z) e.key = some true := by rw [hk1, hz]; simp [Instr.sameNow]
   have h2 : keyIs z e = true := by unfold keyIs; rw [hk1]; simp [hz]
   rw [h2] at h
   simp only [if_true, Option.some.injEq] at h
   subst h
   rw [h1]
   exact ⟨_, rfl⟩
  ·have h1 : Instr.sameNow (.int .i64) (.int .i64 z) e.key = some false := by rw [hk1]; simp [Instr.sameNow, hz, Ne.symm hz]
   have h2 : keyIs z e = false := by unfold keyIs; rw [hk1]; simp [hz]
   rw [h2] at h
   simp only [Bool.false_eq_true, if_false] at h
   cases hq : l.findIdx? (keyIs z) with
   | none => rw [hq] at h; simp at h
   | some j' =>
    rw [hq] at h
    simp only [Option.map_some, Option.some.injEq] at h
    subst h
    rw [h1]
    obtain ⟨v, hv⟩ := findG_idx z l (i + 1) (fun e' he' => hk e' (by simp [he'])) j' hq
    exact ⟨v, by rw [hv, Nat.add_assoc, Nat.add_comm 1 j']⟩
theorem del_flow {w : World} {b c : Nat} {es : Array MapEntry} (hb : w.heap[b]? = some (.map es c)) (z : Int) (j : Nat) (v : Value) (hf : Instr.findNow (.int .i64) (.int .i64 z) es.toList 0 = some (some (j, v))) :
  ∃ w', (∀ ty, (Builtin.delete_ #[74, 3] ty #[.map (some b), .int .i64 z]).run Tryz.prog w = .ok (.tuple #[]) w') ∧ w'.heap[b]? = some (.map (es.eraseIdxIfInBounds j) c) ∧ But (fun g => g = b) w w' := by
 have hc : ∀ q, (Instr.checkKey q 10000 3 (.int .i64 z)).run Tryz.prog w = .ok () w := fun q => MapKept.run_checkKey (k := .int .i64 z) Tryz.underlying3 (by simp [MapKept.IsKey]) q 9999
 have hlt := (bl9 hb)
 refine ⟨{ w with heap := w.heap.setIfInBounds b (.map (es.eraseIdxIfInBounds j) c) }, fun ty => ?_, ?_, rfl, rfl, rfl, by simp, fun i hi he => ?_⟩
 ·simp [Builtin.delete_, run_underlying Tryz.underlying74, MapKept.run_getObj_map hb, hc, MapKept.run_findKey Tryz.underlying3 hf, MapKept.run_setObj_map _ hb, Result.andThen]
 ·simp [hlt]
 ·have he' : i ≠ b := he
  rw [Array.getElem?_setIfInBounds_ne (by omega)]
def Gf.ended (s : Gf) (z : Int) (fe : Array MapEntry) : Gf := { s with fs := s.fs.filter (fun x => !(x.id == z)), fe := fe }
theorem keyIs_flE (z : Int) (x : Fl) (e : MapEntry) (h : (e.key, e.val) = flE x) : keyIs z e = (x.id == z) := by
 have h1 : e.key = .int .i64 x.id := congrArg Prod.fst h
 unfold keyIs
 rw [h1]
theorem filter_fl (z : Int) : ∀ (l : List MapEntry) (fs : List Fl), l.map (fun e => (e.key, e.val)) = fs.map flE → (l.filter (fun e => !keyIs z e)).map (fun e => (e.key, e.val)) = (fs.filter (fun x => !(x.id == z))).map flE ∧ (l.filter (keyIs z)).length = (fs.filter (fun x => x.id == z)).length
 | [], [], _ => by simp
 | [], _ :: _, h => by simp at h
 | _ :: _, [], h => by simp at h
 | e :: l, x :: fs, h => by
  rw [List.map_cons, List.map_cons] at h
  injection h with h1 h2
  have hk := keyIs_flE z x e h1
  obtain ⟨q1, q2⟩ := filter_fl z l fs h2
  rw [List.filter_cons, List.filter_cons, List.filter_cons, List.filter_cons, hk]
  cases hb : (x.id == z) with
  | true => simp only [Bool.not_true, Bool.false_eq_true, if_false, if_true, List.length_cons]; exact ⟨q1, by omega⟩
  | false => simp only [Bool.not_false, if_true, Bool.false_eq_true, if_false, List.map_cons, h1]; exact ⟨by rw [q1], q2⟩
theorem EsI.erase {es : Array MapEntry} {cf j : Nat} (h : EsI es cf) : EsI (es.eraseIdxIfInBounds j) cf := by
 have hs' : (es.eraseIdxIfInBounds j).toList.Sublist es.toList := by
  unfold Array.eraseIdxIfInBounds
  split
  ·simp only [Array.toList_eraseIdx]; exact List.eraseIdx_sublist _ _
  ·exact List.Sublist.refl _
 exact ⟨fun e he => h.ki e (hs'.subset he), fun e he => h.bn e (hs'.subset he), List.Nodup.sublist (hs'.map _) h.nd⟩
theorem GF.dropped {base g : Nat} {W : World} {s : Gf} (h : GF base W g s) (f : Fl) (hf : f ∈ s.fs) (hN : (s.fs.filter (fun x => x.id == f.id)).length ≤ 1) (hes : EsI s.fe s.cf) :
  ∃ W' fe, (∀ ty, (Builtin.delete_ #[74, 3] ty #[.map (some s.gf), .int .i64 f.id]).run Tryz.prog W = .ok (.tuple #[]) W') ∧ But (fun b => b = s.gf) W W' ∧ EsI fe s.cf ∧ GF base W' g (s.ended f.id fe) := by
 obtain ⟨q1, q2⟩ := filter_fl f.id s.fe.toList s.fs h.fm
 have hex : ∃ j, s.fe.toList.findIdx? (keyIs f.id) = some j := by
  cases hq : s.fe.toList.findIdx? (keyIs f.id) with
  | some j => exact ⟨j, rfl⟩
  | none =>
   rw [findIdx_len] at hq
   rw [hq] at q2
   have : f ∈ s.fs.filter (fun x => x.id == f.id) := List.mem_filter.2 ⟨hf, by simp⟩
   have := List.length_pos_of_mem this
   simp at q2
   omega
 obtain ⟨j, hj⟩ := hex
 obtain ⟨v, hv⟩ := findG_idx f.id s.fe.toList 0 hes.ki j hj
 rw [Nat.zero_add] at hv
 obtain ⟨W', hrun, hm, hb⟩ := del_flow h.fl f.id j v hv
 have her := erase_filter (keyIs f.id) s.fe.toList j hj (by omega)
 have htl : (s.fe.eraseIdxIfInBounds j).toList = s.fe.toList.filter (fun e => !keyIs f.id e) := by
  rw [← her]
  have hjl : j < s.fe.size := by
   rw [List.findIdx?_eq_some_iff_getElem] at hj
   obtain ⟨h1, _⟩ := hj
   simpa using h1
  unfold Array.eraseIdxIfInBounds
  rw [dif_pos hjl]
  simp only [Array.toList_eraseIdx]
 refine ⟨W', s.fe.eraseIdxIfInBounds j, hrun, hb, hes.erase, ?_⟩
 have hk : ∀ (b : Nat) (cur : Array Value) (t : TypeId) (fz : Nat × Nat), W.heap[b]? = some (.cells cur t fz) → W'.heap[b]? = some (.cells cur t fz) := fun b cur t fz hh => (hb.block b (bl9 hh) (fun e => by have e' : b = s.gf := e; have h2 := h.fl; rw [← e', hh] at h2; cases h2)).trans hh
 have ho : ∀ {bs : Nat} {e : TypeId} {size : Nat} {v : Value} {n : Nat} {xs : List Value}, W.ownsRow bs e size v n xs → W'.ownsRow bs e size v n xs := fun h => by
  obtain ⟨q1, q2 | ⟨b, cap, cur', e', hb', hh, r⟩⟩ := h
  ·exact ⟨q1, .inl q2⟩
  ·exact ⟨q1, .inr ⟨b, cap, cur', e', hb', hk _ _ _ _ hh, r⟩⟩
 obtain ⟨vs, t1, t2, t3, t4, t5⟩ := h.tb
 refine ⟨h.bs, hk _ _ _ _ h.gc, ⟨h.rl.1, hk _ _ _ _ h.rl.2.1, ho h.rl.2.2⟩, ⟨vs, t1, t2, hk _ _ _ _ t3, fun i hi => ho (t4 i hi), t5⟩, ⟨h.bl.1, hk _ _ _ _ h.bl.2.1, ho h.bl.2.2⟩, hm, ?_, h.ne, h.bf, ?_, h.pm, fun x hx => ?_, fun p hp => ⟨(h.pb p hp).1, (h.pb p hp).2.1, hk _ _ _ _ (h.pb p hp).2.2⟩⟩
 ·exact (hb.block s.gp (bl9 h.pl) (fun e => h.ne e.symm)).trans h.pl
 ·show (s.fe.eraseIdxIfInBounds j).toList.map (fun e => (e.key, e.val)) = (s.fs.filter (fun x => !(x.id == f.id))).map flE
  rw [htl]
  exact q1
 ·have hx' := (List.mem_filter.1 hx).1
  exact ⟨(h.fb x hx').1, hk _ _ _ _ (h.fb x hx').2⟩
theorem give_one (base g : Nat) (s : Gf) (pr ad : Int) (pb : Nat) (ws : Nat → Nat) (n hb : Nat) (w : World) (h : GF base w g s) (hps : s.ps = [⟨pr, ad, pb, ws⟩]) (hE : SrE pr ad) (hn : n < 65536) (hh : hsP s.lo s.hi ws n = true) (hv : w.heap[hb]? = some (.cells #[.int .u8 pr, .int .u32 ad, .int .u16 (n : Int)] 189 (0, 0))) :
  Calls Tryz.prog 78 #[.pointer (some ⟨g, 0, none⟩), .slice (some ⟨hb, 0, none⟩) 1 1] w fun e w' => e = .returned (.tuple #[]) ∧ But (fun b => b = pb) w w' ∧ GF base w' g (oldP s pr ad pb (wsA ws n)) := by
 have hpbl : pb < w.heap.size := (h.pb ⟨pr, ad, pb, ws⟩ (by rw [hps]; simp)).lt
 have HV := hide hv
 have HPL := hide (fun W (l : Later w W) => gpool_old base g s pr ad pb ws W (h.later l) hps hE)
 have HGV := hide (fun W (l : Later w W) => give_yes base pb s.lo s.hi ws n W ((h.pb ⟨pr, ad, pb, ws⟩ (by rw [hps]; simp)).later l) hn hh)
 have HPO := hide (fun W W' (l : Later w W) (hb : But (fun b => b = pb) W W') (hp : PB base W' pb (s.lo : Int) (s.hi : Int) (wsA ws n)) => (h.later l).poolO hps hb hp)
 clear h hps hE hn hh hv
 go_enter Tryz.func78, Tryz.ntmps78
 go_upto_region 1 with fail
 go_loopw [8] (fun iv wr => (iv = .int .i64 0 ∧ wr = w) ∨ (iv = .int .i64 1 ∧ But (fun b => b = pb) w wr ∧ GF base wr g (oldP s pr ad pb (wsA ws n)))) (fun iv _ => 1 - (intOf iv).toNat)
 case atStart => exact .inl ⟨rfl, rfl⟩
 case round =>
  rcases hrel with ⟨rfl, hw⟩ | ⟨rfl, hM, hG⟩
  ·subst hw
   have k0 := block_cell HV.out
   have la := later_allocG wr (.cells #[.int .u8 pr, .int .u32 ad, .int .u16 (n : Int)] 189)
   have C1 := hide (heap_alloc_new wr (.cells #[.int .u8 pr, .int .u32 ad, .int .u16 (n : Int)] 189))
   have LA := hide la
   clear la
   go_upto_region 3 with fail
   generalize wr.alloc _ = w1 at *
   generalize hgx : wr.heap.size = gx at C1 ⊢
   clear k0
   refine anyT_begin (R := But (fun b => b = pb)) 7 rfl (by kernel_rfl) ?_
   have ld : Later w1 w1.drew := Later.drew w1
   generalize w1.drew = w2 at *
   have L2 := hide (LA.out.trans ld)
   have C2 := hide (later_keep ld C1.out)
   have hgp : gx ≠ pb := by omega
   have q1 : ∀ v, But (fun b => b = pb) w2 v → ∀ j, v.cell? ⟨gx, j, none⟩ = #[.int .u8 pr, .int .u32 ad, .int .u16 (n : Int)][j]? := fun v hv => block_cell ((hv.block gx (bl9 C2.out) (fun e => hgp e)).trans C2.out)
   refine tV (But.pre (fun b => b = pb)) 0 rfl rfl ⟨_, fun v h => by (go_simp; rfl), ?_⟩; simp only [Act.put, sA, sB, sC]
   refine tV (But.pre (fun b => b = pb)) 1 rfl rfl ⟨_, fun v h => by (go_simp; rfl), ?_⟩; simp only [Act.put, sA, sB, sC]
   refine tV (But.pre (fun b => b = pb)) 2 rfl rfl ⟨_, fun v h => by (go_simp; rfl), ?_⟩; simp only [Act.put, sA, sB, sC]
   refine tV (But.pre (fun b => b = pb)) 4 rfl rfl ⟨_, fun v h => by (go_simp; rfl), ?_⟩; simp only [Act.put, sA, sB, sC]
   refine tV (But.pre (fun b => b = pb)) 5 rfl rfl ⟨_, fun v h => by (go_simp; rfl), ?_⟩; simp only [Act.put, sA, sB, sC]
   clear q1
   refine anyT_one 3 rfl (by kernel_rfl) rfl ?_
   refine wp_enter 139 #[.pointer (some ⟨g, 0, none⟩), .agg #[.int .u8 pr, .int .u32 ad]] (by go_simp) ?_
   refine (HPL.out w2 L2.out).mono ?_
   rintro e w3 ⟨rfl, l3⟩
   have l3' : Later w2 w3 := l3
   refine ⟨But.of l3', ?_⟩
   simp only [Act.put, sA, sB, sC]
   refine anyT_one 6 rfl (by kernel_rfl) rfl ?_
   refine wp_enter 140 #[.pointer (some ⟨pb, 0, none⟩), .int .u16 (n : Int)] (by go_simp) ?_
   refine (HGV.out w3 (L2.out.trans l3')).mono ?_
   rintro e w4 ⟨rfl, hP4, hb4⟩
   refine ⟨hb4, ?_⟩
   simp only [Act.put, sA, sB, sC]
   refine anyT_done (by kernel_rfl) ?_
   have HREL : Hid ((Value.int .i64 ((0 : Int) + 1) = .int .i64 0 ∧ w4 = wr) ∨ (Value.int .i64 ((0 : Int) + 1) = .int .i64 1 ∧ But (fun b => b = pb) wr w4 ∧ GF base w4 g (oldP s pr ad pb (wsA ws n)))) := .inr ⟨rfl, (But.of (L2.out.trans l3')).trans hb4, HPO.out w3 w4 (L2.out.trans l3') hb4 hP4⟩
   clear hb4 hP4
   go_wp2_with fail
   go_roundw
   case rel => exact HREL.out
   case measure => decide
  ·go_wp2_with fail
   go_end0
   exact ⟨rfl, hM, hG⟩
def endS (s : Gf) (f : Fl) (L : List Rw) (ad : Int) (pb : Nat) (ws : Nat → Nat) (n : Nat) (v : Value) (fe : Array MapEntry) : Gf := { s with cnt := s.cnt - 1 - 1, rw := rwL (dpR f.r (dpR f.o L)), fs := s.fs.filter (fun x => !(x.id == f.id)), fe := fe, ps := [⟨17, ad, pb, wsA ws n⟩], ve := v, ex := [] }
structure EnR (s : Gf) (f : Fl) (L : List Rw) (ad : Int) (pb : Nat) (ws : Nat → Nat) (n : Nat) : Prop where
 hf : f ∈ s.fs
 rw : s.rw = rwL L
 ul : UL L
 p17 : ∀ r ∈ L, r.p = 17
 ro : ∃ r ∈ L, isT' f.o r = true
 rr : ∃ r ∈ L, isT' f.r r = true
 ne : ¬ tuA f.o f.r
 bo : TuB f.o
 br : TuB f.r
 hN : (s.fs.filter (fun x => x.id == f.id)).length ≤ 1
 hu : IdU s
 es : EsI s.fe s.cf
 sz : s.fs.length ≤ 12
 ms : ∀ x ∈ s.fs, x.ms = -1
 id : 0 ≤ f.id
 cn : 0 ≤ s.cnt - 1 ∧ s.cnt ≤ 1000
 ps : s.ps = [⟨17, ad, pb, ws⟩]
 se : SrE 17 ad
 n9 : n < 65536
 hs : hsP s.lo s.hi ws n = true
 ex : s.ex = []
theorem end_udp (base g : Nat) (s : Gf) (f : Fl) (L : List Rw) (ad : Int) (pb : Nat) (ws : Nat → Nat) (n : Nat) (w : World) (h : GF base w g s) (hR : EnR s f L ad pb ws n) (hv : HvOk w f ad n) (hbs : base ≤ w.heap.size) :
  Calls Tryz.prog 34 #[.pointer (some ⟨g, 0, none⟩), .pointer (some ⟨f.blk, 0, none⟩)] w fun e w' => e = .returned (.tuple #[]) ∧ KG base w w' ∧ ∃ v fe, EsI fe s.cf ∧ GF base w' g (endS s f L ad pb ws n v fe) := by
 obtain ⟨r1, hr1, ht1⟩ := hR.ro
 obtain ⟨r2, hr2, ht2⟩ := hR.rr
 have hr2' : r2 ∈ dpR f.o L := List.mem_filter.2 ⟨hr2, by
  cases hb : isT' f.o r2 with
  | false => rfl
  | true =>
   have q1 := isT'_eq.1 hb
   have q2 := isT'_eq.1 ht2
   exact absurd ⟨by rw [← q1.1, q2.1], by rw [← q1.2.1, q2.2.1], by rw [← q1.2.2.1, q2.2.2.1], by rw [← q1.2.2.2.1, q2.2.2.2.1], by rw [← q1.2.2.2.2, q2.2.2.2.2]⟩ hR.ne⟩
 have HR := hide hR
 have HR1 := hide (And.intro hr1 ht1)
 have HR2 := hide (And.intro hr2' ht2)
 have HV := hide hv
 have HG := hide h
 have HF := hide (h.fb f hR.hf).2
 clear hr1 ht1 hr2 ht2 hr2' hR hv h
 go_enter Tryz.func34, Tryz.ntmps34
 go_upto_region 0 with fail
 refine anyT_begin (R := KX) 10 rfl (by kernel_rfl) ?_
 have ld : Later w w.drew := Later.drew w
 generalize w.drew = wd at *
 have HD := hide (HG.out.later ld)
 have MD : Hid (KG base w wd) := KG.of_later ld
 have FD := hide (later_keep ld HF.out)
 clear HG HF ld
 have hbd : base ≤ wd.heap.size := Nat.le_trans hbs MD.out.size
 have k1 : ∀ v, KX wd v → ∀ j, v.cell? ⟨g, j, none⟩ = (gfc s).toArray[j]? := fun v hv => block_cell (hv g _ _ _ HD.out.gc (by decide) (by decide))
 have k2 : ∀ v, KX wd v → ∀ j, v.cell? ⟨f.blk, j, none⟩ = (flc f).toArray[j]? := fun v hv => block_cell (hv f.blk _ _ _ FD.out (by decide) (by decide))
 unfold gfc at k1
 unfold flc at k2
 refine tV KX.pre 0 rfl rfl ⟨_, fun v h => by (go_simp; rfl), ?_⟩; simp only [Act.put, sA, sB, sC]
 refine tV KX.pre 1 rfl rfl ⟨_, fun v h => by (go_simp; rfl), ?_⟩; simp only [Act.put, sA, sB, sC]
 refine tV KX.pre 2 rfl rfl ⟨_, fun v h => by (go_simp; rfl), ?_⟩; simp only [Act.put, sA, sB, sC]
 refine tV KX.pre 3 rfl rfl ⟨_, fun v h => by (go_simp; rfl), ?_⟩; simp only [Act.put, sA, sB, sC]
 refine tV KX.pre 4 rfl rfl ⟨_, fun v h => by (go_simp; rfl), ?_⟩; simp only [Act.put, sA, sB, sC]
 refine tV KX.pre 5 rfl rfl ⟨_, fun v h => by (go_simp; rfl), ?_⟩; simp only [Act.put, sA, sB, sC]
 refine tV KX.pre 6 rfl rfl ⟨_, fun v h => by (go_simp; rfl), ?_⟩; simp only [Act.put, sA, sB, sC]
 refine tV KX.pre 7 rfl rfl ⟨_, fun v h => by (go_simp; rfl), ?_⟩; simp only [Act.put, sA, sB, sC]
 refine tV KX.pre 8 rfl rfl ⟨_, fun v h => by (go_simp; rfl), ?_⟩; simp only [Act.put, sA, sB, sC]
 clear k1 k2
 refine anyT_one 9 rfl (by kernel_rfl) rfl ?_
 refine wp_enter 77 #[.pointer (some ⟨s.gt, 0, none⟩), .agg #[.int .u8 f.o.pr, .int .u32 f.o.src, .int .u32 f.o.dst, .int .u16 f.o.sp, .int .u16 f.o.dp]] (by go_simp) ?_
 refine (dropF base s.gt s.cnt s.trn L f.o r1 wd (by rw [← HR.out.rw]; exact HD.out.tb) HR1.out.1 HR1.out.2 HR.out.ul HR.out.p17 HR.out.bo hbd (by have := HR.out.cn; omega)).mono ?_
 rintro e w3 ⟨ev, rfl, hT, hk, hm, hg⟩
 refine ⟨KX.of hk, ?_⟩
 simp only [Act.put, sA, sB, sC]
 refine anyT_done (by kernel_rfl) ?_
 have H2 := hide (HD.out.tabled hk hm hT)
 have M2 := hide (MD.out.trans hg)
 have F2 := hide (hk f.blk _ _ _ FD.out (by decide) (by decide))
 clear HD MD FD hT hk hm hg hbd
 go_upto_region 1 with fail
 refine anyT_begin (R := KX) 10 rfl (by kernel_rfl) ?_
 have ld : Later w3 w3.drew := Later.drew w3
 generalize w3.drew = w3d at *
 have HD2 := hide (H2.out.later ld)
 have MD2 := hide (M2.out.trans (KG.of_later ld))
 have FD2 := hide (later_keep ld F2.out)
 clear H2 M2 F2 ld
 have hbd : base ≤ w3d.heap.size := Nat.le_trans hbs MD2.out.size
 have k1 : ∀ v, KX w3d v → ∀ j, v.cell? ⟨g, j, none⟩ = (gfc s).toArray[j]? := fun v hv => block_cell (hv g _ _ _ HD2.out.gc (by decide) (by decide))
 have k2 : ∀ v, KX w3d v → ∀ j, v.cell? ⟨f.blk, j, none⟩ = (flc f).toArray[j]? := fun v hv => block_cell (hv f.blk _ _ _ FD2.out (by decide) (by decide))
 unfold gfc at k1
 unfold flc at k2
 refine tV KX.pre 0 rfl rfl ⟨_, fun v h => by (go_simp; rfl), ?_⟩; simp only [Act.put, sA, sB, sC]
 refine tV KX.pre 1 rfl rfl ⟨_, fun v h => by (go_simp; rfl), ?_⟩; simp only [Act.put, sA, sB, sC]
 refine tV KX.pre 2 rfl rfl ⟨_, fun v h => by (go_simp; rfl), ?_⟩; simp only [Act.put, sA, sB, sC]
 refine tV KX.pre 3 rfl rfl ⟨_, fun v h => by (go_simp; rfl), ?_⟩; simp only [Act.put, sA, sB, sC]
 refine tV KX.pre 4 rfl rfl ⟨_, fun v h => by (go_simp; rfl), ?_⟩; simp only [Act.put, sA, sB, sC]
 refine tV KX.pre 5 rfl rfl ⟨_, fun v h => by (go_simp; rfl), ?_⟩; simp only [Act.put, sA, sB, sC]
 refine tV KX.pre 6 rfl rfl ⟨_, fun v h => by (go_simp; rfl), ?_⟩; simp only [Act.put, sA, sB, sC]
 refine tV KX.pre 7 rfl rfl ⟨_, fun v h => by (go_simp; rfl), ?_⟩; simp only [Act.put, sA, sB, sC]
 refine tV KX.pre 8 rfl rfl ⟨_, fun v h => by (go_simp; rfl), ?_⟩; simp only [Act.put, sA, sB, sC]
 clear k1 k2
 refine anyT_one 9 rfl (by kernel_rfl) rfl ?_
 refine wp_enter 77 #[.pointer (some ⟨s.gt, 0, none⟩), .agg #[.int .u8 f.r.pr, .int .u32 f.r.src, .int .u32 f.r.dst, .int .u16 f.r.sp, .int .u16 f.r.dp]] (by go_simp) ?_
 refine (dropF base s.gt (s.cnt - 1) s.trn (dpR f.o L) f.r r2 w3d HD2.out.tb HR2.out.1 HR2.out.2 (UL_dp _ HR.out.ul) (fun r hr => HR.out.p17 r (List.mem_filter.1 hr).1) HR.out.br hbd (by have := HR.out.cn; omega)).mono ?_
 rintro e w4 ⟨ev, rfl, hT, hk, hm, hg⟩
 refine ⟨KX.of hk, ?_⟩
 simp only [Act.put, sA, sB, sC]
 refine anyT_done (by kernel_rfl) ?_
 have H3 := hide (HD2.out.tabled hk hm hT)
 have M3 := hide (MD2.out.trans hg)
 have F3 := hide (hk f.blk _ _ _ FD2.out (by decide) (by decide))
 clear HD2 MD2 FD2 hT hk hm hg hbd
 go_upto_region 2 with fail
 refine anyT_begin (R := But (fun b => b = s.gf)) 10 rfl (by kernel_rfl) ?_
 have ld : Later w4 w4.drew := Later.drew w4
 generalize w4.drew = w5 at *
 have HD3 := hide (H3.out.later ld)
 have MD3 := hide (M3.out.trans (KG.of_later ld))
 have FD3 := hide (later_keep ld F3.out)
 clear H3 M3 F3 ld
 have hnm : ∀ (b : Nat) (cur : Array Value) (t : TypeId) (f : Nat × Nat), w5.heap[b]? = some (.cells cur t f) → ∀ v, But (fun b => b = s.gf) w5 v → v.heap[b]? = some (.cells cur t f) := fun b cur t f hb v hv => (hv.block b (bl9 hb) (fun e => by have e' : b = s.gf := e; have hh := HD3.out.fl; simp only at hh; rw [← e', hb] at hh; cases hh)).trans hb
 have k1 : ∀ v, But (fun b => b = s.gf) w5 v → ∀ j, v.cell? ⟨g, j, none⟩ = (gfc s).toArray[j]? := fun v hv => block_cell (hnm _ _ _ _ HD3.out.gc v hv)
 have k2 : ∀ v, But (fun b => b = s.gf) w5 v → ∀ j, v.cell? ⟨f.blk, j, none⟩ = (flc f).toArray[j]? := fun v hv => block_cell (hnm _ _ _ _ FD3.out v hv)
 unfold gfc at k1
 unfold flc at k2
 refine tV (But.pre (fun b => b = s.gf)) 0 rfl rfl ⟨_, fun v h => by (go_simp; rfl), ?_⟩; simp only [Act.put, sA, sB, sC]
 refine tV (But.pre (fun b => b = s.gf)) 1 rfl rfl ⟨_, fun v h => by (go_simp; rfl), ?_⟩; simp only [Act.put, sA, sB, sC]
 refine tV (But.pre (fun b => b = s.gf)) 2 rfl rfl ⟨_, fun v h => by (go_simp; rfl), ?_⟩; simp only [Act.put, sA, sB, sC]
 refine tV (But.pre (fun b => b = s.gf)) 3 rfl rfl ⟨_, fun v h => by (go_simp; rfl), ?_⟩; simp only [Act.put, sA, sB, sC]
 refine tV (But.pre (fun b => b = s.gf)) 4 rfl rfl ⟨_, fun v h => by (go_simp; rfl), ?_⟩; simp only [Act.put, sA, sB, sC]
 refine tV (But.pre (fun b => b = s.gf)) 5 rfl rfl ⟨_, fun v h => by (go_simp; rfl), ?_⟩; simp only [Act.put, sA, sB, sC]
 refine tV (But.pre (fun b => b = s.gf)) 6 rfl rfl ⟨_, fun v h => by (go_simp; rfl), ?_⟩; simp only [Act.put, sA, sB, sC]
 refine tV (But.pre (fun b => b = s.gf)) 7 rfl rfl ⟨_, fun v h => by (go_simp; rfl), ?_⟩; simp only [Act.put, sA, sB, sC]
 refine tV (But.pre (fun b => b = s.gf)) 8 rfl rfl ⟨_, fun v h => by (go_simp; rfl), ?_⟩; simp only [Act.put, sA, sB, sC]
 clear k1 k2
 obtain ⟨w6, fe, hrun, hb6, hes6, hG6⟩ := HD3.out.dropped f HR.out.hf HR.out.hN HR.out.es
 have hrun' : ∀ ty, (Builtin.delete_ #[74, 3] ty #[.map (some s.gf), .int .i64 f.id]).run Tryz.prog w5 = .ok (.tuple #[]) w6 := hrun
 have HB6 := hide hb6
 have H6 := hide hG6
 have HES := hide hes6
 clear hb6 hG6 hes6 hrun
 refine anyT_one 9 rfl (by kernel_rfl) rfl ?_
 unfold Oper.wp
 go_simp
 refine ⟨HB6.out, ?_⟩
 refine anyT_done (by kernel_rfl) ?_
 clear hrun'
 have M6 : Hid (KG base w w6) := MD3.out.trans (KG.of_but HB6.out (fun k e => by
  have e' : k = s.gf := e
  rw [e']
  refine ⟨HD3.out.bf.1, fun ob ho => ?_⟩
  have hh := HD3.out.fl
  simp only at hh
  rw [hh] at ho
  cases ho
  exact trivial))
 have F6 := hide (hnm _ _ _ _ FD3.out w6 HB6.out)
 clear HD3 MD3 FD3 HB6 hnm
 obtain ⟨hb, hhv, hhb⟩ := HV.out.kg M6.out
 have HGI := hide (give_one base g _ 17 ad pb ws n hb w6 H6.out HR.out.ps HR.out.se HR.out.n9 HR.out.hs hhb)
 have hpl6 : pb < w6.heap.size := (H6.out.pb ⟨17, ad, pb, ws⟩ (by show _ ∈ s.ps; rw [HR.out.ps]; simp)).lt
 have HPT := hide (H6.out.pb ⟨17, ad, pb, ws⟩ (by show _ ∈ s.ps; rw [HR.out.ps]; simp))
 have k2 := block_cell F6.out
 unfold flc at k2
 rw [hhv] at k2
 clear hhv hhb HV
 go_wp2_with fail
 refine HGI.out.mono ?_
 rintro e w7 ⟨rfl, hb7, hG7⟩
 clear k2 HGI
 have H7 := hide hG7
 have M7 : Hid (KG base w w7) := M6.out.trans (KG.of_but hb7 (fun k e => by
  have e' : k = pb := e
  rw [e']
  refine ⟨HPT.out.1, fun ob ho => ?_⟩
  rw [HPT.out.2.2] at ho
  cases ho
  show gTs.contains _ = true
  decide))
 have F7 := hide ((hb7.block f.blk (bl9 F6.out) (fun e => by
  have e' : f.blk = pb := e
  have q := F6.out
  rw [e', HPT.out.2.2] at q
  injection q with q
  injection q with q1 q2 q3
  exact absurd q2 (by decide))).trans F6.out)
 clear hG7 hb7 H6 M6 F6 HPT hpl6
 have hbd : base ≤ w7.heap.size := Nat.le_trans hbs M7.out.size
 go_upto_region 4 with fail
 refine anyT_begin (R := But (fun b => b = s.gb)) 12 rfl (by kernel_rfl) ?_
 have ld : Later w7 w7.drew := Later.drew w7
 generalize w7.drew = w8 at *
 have HD7 := hide (H7.out.later ld)
 have MD7 := hide (M7.out.trans (KG.of_later ld))
 have FD7 := hide (later_keep ld F7.out)
 clear H7 M7 F7 ld
 have hbd8 : base ≤ w8.heap.size := Nat.le_trans hbs MD7.out.size
 have k1 : ∀ v, But (fun b => b = s.gb) w8 v → ∀ j, v.cell? ⟨g, j, none⟩ = (gfc s).toArray[j]? := fun v hv => block_cell (cellsG_but hv HD7.out.gc HD7.out.bl.2.1 (by intro e; injection e with e1 e2 e3; exact absurd e2 (by decide)))
 have k2 : ∀ v, But (fun b => b = s.gb) w8 v → ∀ j, v.cell? ⟨f.blk, j, none⟩ = (flc f).toArray[j]? := fun v hv => block_cell (cellsG_but hv FD7.out HD7.out.bl.2.1 (by intro e; injection e with e1 e2 e3; exact absurd e2 (by decide)))
 unfold gfc at k1
 unfold flc at k2
 refine tV (But.pre (fun b => b = s.gb)) 0 rfl rfl ⟨_, fun v h => by (go_simp; rfl), ?_⟩; simp only [Act.put, sA, sB, sC]
 refine tV (But.pre (fun b => b = s.gb)) 1 rfl rfl ⟨_, fun v h => by (go_simp; rfl), ?_⟩; simp only [Act.put, sA, sB, sC]
 refine tV (But.pre (fun b => b = s.gb)) 2 rfl rfl ⟨_, fun v h => by (go_simp; rfl), ?_⟩; simp only [Act.put, sA, sB, sC]
 refine tV (But.pre (fun b => b = s.gb)) 3 rfl rfl ⟨_, fun v h => by (go_simp; rfl), ?_⟩; simp only [Act.put, sA, sB, sC]
 refine tV (But.pre (fun b => b = s.gb)) 4 rfl rfl ⟨_, fun v h => by (go_simp; rfl), ?_⟩; simp only [Act.put, sA, sB, sC]
 refine tV (But.pre (fun b => b = s.gb)) 5 rfl rfl ⟨_, fun v h => by (go_simp; rfl), ?_⟩; simp only [Act.put, sA, sB, sC]
 refine tV (But.pre (fun b => b = s.gb)) 6 rfl rfl ⟨_, fun v h => by (go_simp; rfl), ?_⟩; simp only [Act.put, sA, sB, sC]
 refine tV (But.pre (fun b => b = s.gb)) 7 rfl rfl ⟨_, fun v h => by (go_simp; rfl), ?_⟩; simp only [Act.put, sA, sB, sC]
 refine tV (But.pre (fun b => b = s.gb)) 8 rfl rfl ⟨_, fun v h => by (go_simp; rfl), ?_⟩; simp only [Act.put, sA, sB, sC]
 refine tV (But.pre (fun b => b = s.gb)) 9 rfl rfl ⟨_, fun v h => by (go_simp; rfl), ?_⟩; simp only [Act.put, sA, sB, sC]
 clear k1 k2
 refine anyT_one 10 rfl (by kernel_rfl) rfl ?_
 refine wp_enter 79 #[.pointer (some ⟨s.gb, 0, none⟩), .int .i64 f.id] (by go_simp) ?_
 refine (gone12_any base s.gb s.ve [] f.id w8 (by have q : BL 144 base w8 s.gb s.ve s.ex := HD7.out.bl; rw [HR.out.ex] at q; exact q) hbd8 (by simp)).mono ?_
 rintro e w9 ⟨u, rfl, v9, hbl, hrow, hbut, _⟩
 obtain ⟨ua, uc, rfl⟩ : ∃ a c, u = .slice a 0 c := by
  obtain ⟨_, ⟨rfl, _⟩ | ⟨b, cap, cur, rfl, _⟩⟩ := hrow
  ·exact ⟨_, _, rfl⟩
  ·exact ⟨_, _, rfl⟩
 have H9 := hide (HD7.out.book hbut hbl)
 have M9 : Hid (KG base w w9) := MD7.out.trans (KG.of_but hbut (fun k e => by
  have e' : k = s.gb := e
  rw [e']
  refine ⟨HD7.out.bl.1, fun ob ho => ?_⟩
  have hh : w8.heap[s.gb]? = some (.cells _ 144 (0, 0)) := HD7.out.bl.2.1
  rw [hh] at ho
  cases ho
  show gTs.contains _ = true
  decide))
 have F9 := hide (cellsG_but hbut FD7.out HD7.out.bl.2.1 (by intro e; injection e with e1 e2 e3; exact absurd e2 (by decide)))
 have HB9 := hide hbut
 clear hbut hrow hbl HD7 MD7 FD7
 refine ⟨HB9.out, ?_⟩
 simp only [Act.put, sA, sB, sC]
 refine anyT_one 11 rfl (by kernel_rfl) rfl ?_
 refine wp_enter 35 #[.pointer (some ⟨g, 0, none⟩), .slice ua 0 uc] (by go_simp) ?_
 refine (giveExpected_none _ ua uc w9).mono ?_
 rintro e w10 ⟨rfl, hw10⟩
 subst hw10
 refine ⟨But.refl _ _, ?_⟩
 simp only [Act.put, sA, sB, sC]
 refine anyT_done (by kernel_rfl) ?_
 have HFIN : Hid (GF base w10 g (endS s f L ad pb ws n v9 fe)) := H9.out
 have hsub : ∀ x, x ∈ (endS s f L ad pb ws n v9 fe).fs → x ∈ s.fs := fun x hx => (List.mem_filter.1 hx).1
 have HTN := hide (tunnels_none base g (endS s f L ad pb ws n v9 fe) f w10 HFIN.out HES.out (Nat.le_trans (List.length_filter_le _ _) HR.out.sz) (fun x hx y hy e => HR.out.hu x (hsub x hx) y (hsub y hy) e) F9.out (fun x hx => by rw [HR.out.ms x (hsub x hx), beq_eq_false_iff_ne]; have := HR.out.id; omega))
 clear hsub H9 HB9
 go_wp2_with fail
 refine HTN.out.mono ?_
 rintro e w11 ⟨rfl, l11⟩
 have HF2 : Hid (KG base w w11 ∧ GF base w11 g (endS s f L ad pb ws n v9 fe)) := ⟨M9.out.trans (KG.of_later l11), HFIN.out.later l11⟩
 clear HTN HFIN l11
 go_upto_region 6 with fail
 go_loopw [5, 57] (fun _ iv wr => iv = .int .i64 0 ∧ wr = w11) (fun _ _ _ => 0)
 case atStart => exact ⟨rfl, rfl⟩
 case round =>
  obtain ⟨rfl, rfl⟩ := hrel
  go_wp2_with fail
  go_end0
  exact ⟨rfl, HF2.out.1, v9, fe, HES.out, HF2.out.2⟩
def HpS (HP : Int → Int → Value → World → Prop) : Prop := ∀ rc n v (A B : World) (k : Nat) (cur : Array Value) (fz : Nat × Nat), HP rc n v A → A.heap[k]? = some (.cells cur 40 fz) → But (fun q => q = k) A B → HP rc n v B
def PkH (base : Nat) (w w' : World) (nw now : Int) (HP : Int → Int → Value → World → Prop) (e : Ending) : Prop := ∃ (rc sd : Int) (va : Option Addr) (ln vc : Nat) (n : Int) (v : Value), e = .returned (.agg #[.int .i64 rc, .int .i64 sd, .slice va ln vc]) ∧ KG base w w' ∧ (n ≤ nw ∨ n ≤ now) ∧ now ≤ n ∧ HP rc n v w'
theorem packet_H (base g : Nat) (s : Gf) (nw : Int) (sb : Value) (HP : Int → Int → Value → World → Prop) (w : World) (h : GF base w g s) (hbs : base ≤ w.heap.size) (hsb : ∃ a ln c, sb = .slice a ln c) (hnow : 0 ≤ s.now ∧ s.now ≤ 549755813888) (hex : s.ex = []) (hdu : ∀ n, n ≤ nw ∨ n ≤ s.now → duR n (allR s.rw) = []) (hal : (allR s.rw).length ≤ 5000) (hS : HpS HP)
  (hH : ∀ W n v, KG base w W → (0 ≤ n ∧ n ≤ 549755813888) → (n ≤ nw ∨ n ≤ s.now) → s.now ≤ n → GF base W g (ltr s n v) → Calls Tryz.prog 25 #[.pointer (some ⟨g, 0, none⟩), .int .i64 0, sb] W fun e w' => ∃ (rc sd : Int) (va : Option Addr) (ln vc : Nat), e = .returned (.agg #[.int .i64 rc, .int .i64 sd, .slice va ln vc]) ∧ KG base W w' ∧ HP rc n v w') :
  Calls Tryz.prog 8 #[.pointer (some ⟨g, 0, none⟩), .int .i64 nw, .int .i64 0, sb] w fun e w' => PkH base w w' nw s.now HP e := by
 obtain ⟨sa, sl, sc, rfl⟩ := hsb
 have l0 := later_allocG w (.cells (oc 0).toArray 40)
 have C0 := hide (heap_alloc_new w (.cells (oc 0).toArray 40))
 have h1 := h.later l0
 have HH := hide hH
 have HG := hide h
 have H1 := hide h1
 have HSS := hide hS
 have HTK := hide (fun W (hg : GF base W g s) (hb : base ≤ W.heap.size) => tick_quiet base g s nw W hg hb hnow hex hdu hal)
 clear h h1 hH hex hdu hal hS
 go_enter Tryz.func8, Tryz.ntmps8
 go_upto_region 3 with fail
 change Code.wp _ _ _ _ (w.alloc (.cells (oc 0).toArray 40))
 generalize w.alloc (.cells (oc 0).toArray 40) = w1 at *
 generalize hgx : w.heap.size = gx at C0 ⊢
 have hs1 : base ≤ w1.heap.size := Nat.le_trans hbs l0.size
 go_wp2_with fail
 refine (HTK.out w1 H1.out hs1).mono ?_
 rintro e w2 ⟨rfl, M2, n, v2, hn, hnw, hns, h2⟩
 have K2 : KG base w w2 := (KG.of_later l0).trans (TqG.kg M2 H1.out)
 have D0 := hide ((TqG.kg M2 H1.out).cells C0.out (by decide))
 have HHN := hide (HH.out w2 n v2 K2 hn hnw hns h2)
 have hgw : gx < w2.heap.size := (bl9 D0.out)
 have HNW := hide (And.intro hnw hns)
 clear M2 C0 H1 hs1 HH h2 HTK hnw hns
 go_wp2_with fail
 refine HHN.out.mono ?_
 rintro e w3 ⟨rc, sd, va, ln, vc, rfl, k3, hP3⟩
 have E0 := hide (k3.cells D0.out (by decide))
 have HP3 := hide hP3
 have K3 : Hid (KG base w w3) := K2.trans k3
 have k0 := block_cell E0.out
 have f0 := block_frozen E0.out
 clear HHN hP3 D0 k3
 go_wp2_with fail
 generalize hV : World.setCell _ ⟨gx, 2, none⟩ _ = V8
 have hV9 : V8 = putRow w3 gx 0 [.int .i64 rc, .int .i64 sd, .slice va ln vc] := hV.symm
 have hb8 : But (fun b => b = gx) w3 V8 := by rw [hV9]; exact putRow_but (E := fun b => b = gx) (n := gx) rfl _ _ _ _ (But.refl _ _)
 have p8 := putRow_all [.int .i64 rc, .int .i64 sd, .slice va ln vc] E0.out rfl
 rw [← hV9] at p8
 clear hV hV9 k0 f0
 have P8 := block_cell p8
 have k8 := K3.out.own hb8 (by omega)
 exact bodyPost_ret (v := .agg #[.int .i64 rc, .int .i64 sd, .slice va ln vc]) (by simp [results, Tryz.results8, go_sem, P8]) rfl ⟨rc, sd, va, ln, vc, n, v2, rfl, k8, HNW.out.1, HNW.out.2, HSS.out rc n v2 _ _ gx _ _ HP3.out E0.out hb8⟩
structure FlK (p : Int) (f : Fl) : Prop where
 op : f.o.pr = 17
 os : f.o.src = 167772162
 od : f.o.dst = 134744072
 oa : 0 ≤ f.o.sp ∧ f.o.sp ≤ 65535
 ob : f.o.dp = p
 rp : f.r.pr = 17
 rs : f.r.src = 134744072
 rd : f.r.dst = 16909060
 ra : f.r.sp = p
 rb : 0 ≤ f.r.dp ∧ f.r.dp ≤ 65535
 sd : f.side = 0
 ms : f.ms = -1
 hp : f.hp = noh
structure FlI (s : Gf) (L : List Rw) (p T : Int) : Prop where
 rw : s.rw = rwL L
 ul : UL L
 p17 : ∀ r ∈ L, r.p = 17
 own : ∀ r ∈ L, ∃ f ∈ s.fs, (isT' f.o r = true ∨ isT' f.r r = true) ∧ r.id = f.id
 ho : ∀ f ∈ s.fs, ∃ r ∈ L, isT' f.o r = true ∧ r.id = f.id
 hr : ∀ f ∈ s.fs, ∃ r ∈ L, isT' f.r r = true ∧ r.id = f.id
 nd : (s.fs.map Fl.id).Nodup
 bl : ∀ x ∈ s.fs, ∀ y ∈ s.fs, x.blk = y.blk → x = y
 es : EsI s.fe s.cf
 fl : ∀ f ∈ s.fs, FlK p f
 ib : ∀ f ∈ s.fs, 0 ≤ f.id ∧ f.id < s.bg
 ex : s.ex = []
 cn : s.cnt = 2 * (s.fs.length : Int)
 sz : s.fs.length ≤ 6
 ll : L.length ≤ 2 * s.fs.length
 tr : 0 ≤ s.trn ∧ s.trn ≤ T
 bg : 0 ≤ s.bg ∧ s.bg ≤ T
 pp : 0 ≤ p ∧ p ≤ 65535
theorem FlI.ll12 {s : Gf} {L : List Rw} {p T : Int} (h : FlI s L p T) : L.length ≤ 12 := by
 have := h.ll
 have := h.sz
 omega
def TiI (L : List Rw) : Prop := ∀ r ∈ L, 0 < r.till ∧ r.till ≤ 1000
theorem FlK.bo {p : Int} {f : Fl} (h : FlK p f) (hp : 0 ≤ p ∧ p ≤ 65535) : TuB f.o := ⟨by rw [h.os]; omega, by rw [h.od]; omega, h.oa, by rw [h.ob]; exact hp⟩
theorem FlK.br {p : Int} {f : Fl} (h : FlK p f) (hp : 0 ≤ p ∧ p ≤ 65535) : TuB f.r := ⟨by rw [h.rs]; omega, by rw [h.rd]; omega, by rw [h.ra]; exact hp, h.rb⟩
theorem FlK.ne {p : Int} {f : Fl} (h : FlK p f) : ¬ tuA f.o f.r := fun e => by
 have q := e.2.1
 rw [h.os, h.rs] at q
 omega
theorem nd_eq {l : List Fl} (h : (l.map Fl.id).Nodup) : ∀ {x y : Fl}, x ∈ l → y ∈ l → x.id = y.id → x = y := by
 induction l with
 | nil => intro x y hx; cases hx
 | cons z l ih =>
  intro x y hx hy e
  rw [List.map_cons, List.nodup_cons] at h
  rcases List.mem_cons.1 hx with q1 | hx <;> rcases List.mem_cons.1 hy with q2 | hy
  ·rw [q1, q2]
  ·exact absurd (List.mem_map.2 ⟨y, hy, by rw [← e, q1]⟩) h.1
  ·exact absurd (List.mem_map.2 ⟨x, hx, by rw [e, q2]⟩) h.1
  ·exact ih h.2 hx hy e
theorem nd_one {l : List Fl} (h : (l.map Fl.id).Nodup) (z : Int) : (l.filter (fun x => x.id == z)).length ≤ 1 := by
 induction l with
 | nil => simp
 | cons y l ih =>
  rw [List.map_cons, List.nodup_cons] at h
  rw [List.filter_cons]
  split
  ·rename_i e
   have : l.filter (fun x => x.id == z) = [] := by
    rw [List.filter_eq_nil_iff]
    intro x hx hxz
    refine h.1 (List.mem_map.2 ⟨x, hx, ?_⟩)
    simp at e hxz
    rw [hxz, e]
   rw [this]
   simp
  ·exact ih h.2
theorem FlI.idu {s : Gf} {L : List Rw} {p T : Int} (h : FlI s L p T) : IdU s := fun x hx y hy e => by rw [nd_eq h.nd hx hy e]
def SkR (r x : Rw) : Prop := (∀ u, isT' u x = isT' u r) ∧ x.id = r.id ∧ x.p = r.p
theorem mvR_m1 {t : Tu} {till tn : Int} {L : List Rw} {x : Rw} (h : x ∈ mvR t till tn L) : ∃ r ∈ L, SkR r x ∧ (isT' t r = true → x.till = till) ∧ (isT' t r = false → x = r) := by
 obtain ⟨r, hr, rfl⟩ := mvR_mem h
 refine ⟨r, hr, ?_⟩
 cases hb : isT' t r with
 | true =>
  refine ⟨⟨fun u => rfl, rfl, rfl⟩, fun _ => rfl, fun e => ?_⟩
  cases e
 | false =>
  refine ⟨⟨fun u => rfl, rfl, rfl⟩, fun e => ?_, fun _ => rfl⟩
  cases e
theorem mvR_m2 (t : Tu) (till tn : Int) {L : List Rw} {r : Rw} (h : r ∈ L) : ∃ x ∈ mvR t till tn L, SkR r x := by
 refine ⟨_, List.mem_map.2 ⟨r, h, rfl⟩, ?_⟩
 show SkR r (if isT' t r = true then reT till tn r else r)
 split
 ·exact ⟨fun u => rfl, rfl, rfl⟩
 ·exact ⟨fun u => rfl, rfl, rfl⟩
def SfF (x y : Fl) : Prop := y.blk = x.blk ∧ y.id = x.id ∧ y.o = x.o ∧ y.r = x.r ∧ y.side = x.side ∧ y.ms = x.ms ∧ y.hv = x.hv ∧ y.hp = x.hp
theorem wf_m1 {fs : List Fl} (bl : ∀ x ∈ fs, ∀ y ∈ fs, x.blk = y.blk → x = y) {f : Fl} (hf : f ∈ fs) (st tl : Int) {y : Fl} (h : y ∈ fs.map (fun x => if x.blk = f.blk then f.at st tl else x)) : ∃ x ∈ fs, SfF x y ∧ (x = f → y = f.at st tl) ∧ (x ≠ f → y = x) := by
 obtain ⟨x, hx, rfl⟩ := List.mem_map.1 h
 refine ⟨x, hx, ?_⟩
 by_cases e : x.blk = f.blk
 ·have := bl x hx f hf e
  subst this
  simp only [if_true]
  exact ⟨⟨rfl, rfl, rfl, rfl, rfl, rfl, rfl, rfl⟩, fun _ => by first | rfl | trivial, fun q => absurd rfl q⟩
 ·rw [if_neg e]
  exact ⟨⟨rfl, rfl, rfl, rfl, rfl, rfl, rfl, rfl⟩, fun q => absurd (by rw [q]) e, fun _ => rfl⟩
theorem wf_m2 {fs : List Fl} (bl : ∀ x ∈ fs, ∀ y ∈ fs, x.blk = y.blk → x = y) {f : Fl} (hf : f ∈ fs) (st tl : Int) {x : Fl} (h : x ∈ fs) : ∃ y ∈ fs.map (fun x => if x.blk = f.blk then f.at st tl else x), SfF x y := by
 refine ⟨_, List.mem_map.2 ⟨x, h, rfl⟩, ?_⟩
 show SfF x (if x.blk = f.blk then f.at st tl else x)
 split
 ·rename_i e
  have := bl x h f hf e
  subst this
  exact ⟨rfl, rfl, rfl, rfl, rfl, rfl, rfl, rfl⟩
 ·exact ⟨rfl, rfl, rfl, rfl, rfl, rfl, rfl, rfl⟩
theorem wf_id {fs : List Fl} (bl : ∀ x ∈ fs, ∀ y ∈ fs, x.blk = y.blk → x = y) {f : Fl} (hf : f ∈ fs) (st tl : Int) : (fs.map (fun x => if x.blk = f.blk then f.at st tl else x)).map Fl.id = fs.map Fl.id := by
 rw [List.map_map]
 refine List.map_congr_left (fun x hx => ?_)
 show (if x.blk = f.blk then f.at st tl else x).id = x.id
 split
 ·rename_i e
  rw [bl x hx f hf e]
  rfl
 ·rfl
theorem FlI.become {s : Gf} {L : List Rw} {p T : Int} (h : FlI s L p T) (hnw : s.now = 0) {f : Fl} (hf : f ∈ s.fs) : ∃ L2, FlI (bcS s f 8) L2 p (T + 2) ∧ (∀ x ∈ L2, ∃ r ∈ L, SkR r x ∧ ((isT' f.o r = true ∨ isT' f.r r = true) → x.till = 30) ∧ ((isT' f.o r = false ∧ isT' f.r r = false) → x = r)) := by
 obtain ⟨r1, hr1, ht1, _⟩ := h.ho f hf
 obtain ⟨r2, hr2, ht2, _⟩ := h.hr f hf
 obtain ⟨r2', hr2', hs2⟩ := mvR_m2 f.o 30 (s.trn + 1) hr2
 have hk := h.fl f hf
 have htl : s.now + tm f.o.pr 8 = 30 := by rw [hnw, hk.op]; decide
 have e1 : bcM s f 30 = (s.trn + 1 + 1, rwL (mvR f.r 30 (s.trn + 1 + 1) (mvR f.o 30 (s.trn + 1) L))) := by
  unfold bcM
  rw [h.rw, mvT_L f.o 30 s.trn L r1 (by decide) hr1 ht1 h.ul, mvT_L f.r 30 (s.trn + 1) _ r2' (by decide) hr2' (by rw [hs2.1]; exact ht2) (UL_mv _ _ _ h.ul)]
 have hfs : (bcS s f 8).fs = s.fs.map (fun x => if x.blk = f.blk then f.at 8 30 else x) := by
  unfold bcS
  rw [htl]
  rfl
 have htr : (bcS s f 8).trn = s.trn + 1 + 1 := by
  unfold bcS
  rw [htl, e1]
 have hrw : (bcS s f 8).rw = rwL (mvR f.r 30 (s.trn + 1 + 1) (mvR f.o 30 (s.trn + 1) L)) := by
  unfold bcS
  rw [htl, e1]
 have hmem : ∀ x ∈ mvR f.r 30 (s.trn + 1 + 1) (mvR f.o 30 (s.trn + 1) L), ∃ r ∈ L, SkR r x ∧ ((isT' f.o r = true ∨ isT' f.r r = true) → x.till = 30) ∧ ((isT' f.o r = false ∧ isT' f.r r = false) → x = r) := fun x hx => by
  obtain ⟨y, hy, hs, ha, hb⟩ := mvR_m1 hx
  obtain ⟨r, hr, hs', ha', hb'⟩ := mvR_m1 hy
  refine ⟨r, hr, ⟨fun u => (hs.1 u).trans (hs'.1 u), hs.2.1.trans hs'.2.1, hs.2.2.trans hs'.2.2⟩, fun q => ?_, fun q => ?_⟩
  ·cases hyr : isT' f.r y with
   | true => exact ha hyr
   | false =>
    rw [hb hyr]
    rcases q with q | q
    ·exact ha' q
    ·rw [hs'.1, q] at hyr; cases hyr
  ·rw [hb (by rw [hs'.1]; exact q.2), hb' q.1]
 have hmem2 : ∀ r ∈ L, ∃ x ∈ mvR f.r 30 (s.trn + 1 + 1) (mvR f.o 30 (s.trn + 1) L), SkR r x := fun r hr => by
  obtain ⟨y, hy, hs⟩ := mvR_m2 f.o 30 (s.trn + 1) hr
  obtain ⟨x, hx, hs'⟩ := mvR_m2 f.r 30 (s.trn + 1 + 1) hy
  exact ⟨x, hx, fun u => (hs'.1 u).trans (hs.1 u), hs'.2.1.trans hs.2.1, hs'.2.2.trans hs.2.2⟩
 refine ⟨_, ⟨hrw, UL_mv _ _ _ (UL_mv _ _ _ h.ul), fun x hx => ?_, fun x hx => ?_, fun y hy => ?_, fun y hy => ?_, ?_, ?_, h.es, fun y hy => ?_, fun y hy => ?_, h.ex, ?_, ?_, ?_, ?_, ?_, h.pp⟩, hmem⟩
 ·obtain ⟨r, hr, hs, _⟩ := hmem x hx
  rw [hs.2.2]
  exact h.p17 r hr
 ·obtain ⟨r, hr, hs, _⟩ := hmem x hx
  obtain ⟨f', hf', ho, hi⟩ := h.own r hr
  rw [hfs]
  obtain ⟨y, hy, hsf⟩ := wf_m2 h.bl hf 8 30 hf'
  refine ⟨y, hy, ?_, by rw [hs.2.1, hi, hsf.2.1]⟩
  rw [hsf.2.2.1, hsf.2.2.2.1, hs.1, hs.1]
  exact ho
 ·rw [hfs] at hy
  obtain ⟨x, hx, hsf, _⟩ := wf_m1 h.bl hf 8 30 hy
  obtain ⟨r, hr, ht, hi⟩ := h.ho x hx
  obtain ⟨q, hq, hs⟩ := hmem2 r hr
  exact ⟨q, hq, by rw [hsf.2.2.1, hs.1]; exact ht, by rw [hs.2.1, hi, hsf.2.1]⟩
 ·rw [hfs] at hy
  obtain ⟨x, hx, hsf, _⟩ := wf_m1 h.bl hf 8 30 hy
  obtain ⟨r, hr, ht, hi⟩ := h.hr x hx
  obtain ⟨q, hq, hs⟩ := hmem2 r hr
  exact ⟨q, hq, by rw [hsf.2.2.2.1, hs.1]; exact ht, by rw [hs.2.1, hi, hsf.2.1]⟩
 ·rw [hfs, wf_id h.bl hf]
  exact h.nd
 ·intro x hx y hy e
  rw [hfs] at hx hy
  obtain ⟨x', hx', hsx, hx1, hx2⟩ := wf_m1 h.bl hf 8 30 hx
  obtain ⟨y', hy', hsy, hy1, hy2⟩ := wf_m1 h.bl hf 8 30 hy
  rw [hsx.1, hsy.1] at e
  have := h.bl x' hx' y' hy' e
  subst this
  by_cases q : x' = f
  ·rw [hx1 q, hy1 q]
  ·rw [hx2 q, hy2 q]
 ·rw [hfs] at hy
  obtain ⟨x, hx, hsf, h1, h2⟩ := wf_m1 h.bl hf 8 30 hy
  have k := h.fl x hx
  refine ⟨by rw [hsf.2.2.1]; exact k.op, by rw [hsf.2.2.1]; exact k.os, by rw [hsf.2.2.1]; exact k.od, by rw [hsf.2.2.1]; exact k.oa, by rw [hsf.2.2.1]; exact k.ob, by rw [hsf.2.2.2.1]; exact k.rp, by rw [hsf.2.2.2.1]; exact k.rs, by rw [hsf.2.2.2.1]; exact k.rd, by rw [hsf.2.2.2.1]; exact k.ra, by rw [hsf.2.2.2.1]; exact k.rb, by rw [hsf.2.2.2.2.1]; exact k.sd, by rw [hsf.2.2.2.2.2.1]; exact k.ms, by rw [hsf.2.2.2.2.2.2.2]; exact k.hp⟩
 ·rw [hfs] at hy
  obtain ⟨x, hx, hsf, _⟩ := wf_m1 h.bl hf 8 30 hy
  rw [hsf.2.1]
  exact h.ib x hx
 ·show s.cnt = _
  rw [hfs, List.length_map]
  exact h.cn
 ·rw [hfs, List.length_map]
  exact h.sz
 ·unfold mvR
  rw [List.length_map, List.length_map, hfs, List.length_map]
  exact h.ll
 ·rw [htr]
  have := h.tr
  omega
 ·have := h.bg
  show 0 ≤ s.bg ∧ s.bg ≤ T + 2
  omega
theorem FlI.opened {s : Gf} {L : List Rw} {p T : Int} (h : FlI s L p T) (hnw : s.now = 0) {f : Fl} (hid : f.id = s.bg) (hk : FlK p f) (hb : ∀ x ∈ s.fs, x.blk ≠ f.blk) (ha : ∀ x ∈ s.fs, x.o.sp ≠ f.o.sp) (hn : ∀ x ∈ s.fs, x.r.dp ≠ f.r.dp) (hz : s.fs.length ≤ 5) : FlI (opS s f) (L ++ [roT f.o f.id 0 (s.trn + 1)] ++ [roT f.r f.id 0 (s.trn + 1 + 1)]) p (T + 2) := by
 have hno : ∀ r ∈ L, isT' f.o r = false := fun r hr => by
  cases hb : isT' f.o r with
  | false => rfl
  | true =>
   have q := isT'_eq.1 hb
   obtain ⟨x, hx, hor, _⟩ := h.own r hr
   have kx := h.fl x hx
   rcases hor with hor | hor
   ·have q2 := isT'_eq.1 hor
    have e1 : kyp x.o.pr x.o.sp = kyp f.o.pr f.o.sp := by rw [← q2.2.2.2.1, q.2.2.2.1]
    rw [kx.op, hk.op] at e1
    exact absurd e1 (ha x hx)
   ·have q2 := isT'_eq.1 hor
    have e1 : x.r.src = f.o.src := by rw [← q2.2.1, q.2.1]
    rw [kx.rs, hk.os] at e1
    omega
 have hnr : ∀ r ∈ L, isT' f.r r = false := fun r hr => by
  cases hb : isT' f.r r with
  | false => rfl
  | true =>
   have q := isT'_eq.1 hb
   obtain ⟨x, hx, hor, _⟩ := h.own r hr
   have kx := h.fl x hx
   rcases hor with hor | hor
   ·have q2 := isT'_eq.1 hor
    have e1 : x.o.src = f.r.src := by rw [← q2.2.1, q.2.1]
    rw [kx.os, hk.rs] at e1
    omega
   ·have q2 := isT'_eq.1 hor
    have e1 : x.r.dp = f.r.dp := by rw [← q2.2.2.2.2, q.2.2.2.2]
    exact absurd e1 (hn x hx)
 have ho1 : isT' f.o (roT f.o f.id 0 (s.trn + 1)) = true := isT'_eq.2 ⟨rfl, rfl, rfl, rfl, rfl⟩
 have hr1 : isT' f.r (roT f.r f.id 0 (s.trn + 1 + 1)) = true := isT'_eq.2 ⟨rfl, rfl, rfl, rfl, rfl⟩
 have hnr' : ∀ r ∈ L ++ [roT f.o f.id 0 (s.trn + 1)], isT' f.r r = false := fun r hr => by
  rcases List.mem_append.1 hr with hr | hr
  ·exact hnr r hr
  ·rw [List.mem_singleton.1 hr]
   cases hb : isT' f.r (roT f.o f.id 0 (s.trn + 1)) with
   | false => rfl
   | true =>
    have q := (isT'_eq.1 hb).2.1
    have q' : f.o.src = f.r.src := q
    rw [hk.os, hk.rs] at q'
    omega
 have hc := h.cn
 have e1 : opM s f = (s.cnt + 1 + 1, s.trn + 1 + 1, rwL (L ++ [roT f.o f.id 0 (s.trn + 1)] ++ [roT f.r f.id 0 (s.trn + 1 + 1)])) := by
  unfold opM
  rw [h.rw, hnw, ptT_L f.o f.id 0 s.cnt s.trn L (by decide) (by omega) hno, ptT_L f.r f.id 0 (s.cnt + 1) (s.trn + 1) _ (by decide) (by omega) hnr']
 have hfs : (opS s f).fs = s.fs ++ [f] := rfl
 have hcn : (opS s f).cnt = s.cnt + 1 + 1 := by unfold opS; rw [e1]
 have htr : (opS s f).trn = s.trn + 1 + 1 := by unfold opS; rw [e1]
 have hrw : (opS s f).rw = rwL (L ++ [roT f.o f.id 0 (s.trn + 1)] ++ [roT f.r f.id 0 (s.trn + 1 + 1)]) := by unfold opS; rw [e1]
 refine ⟨hrw, UL_add _ f.r hr1 hnr' (UL_add _ f.o ho1 hno h.ul), fun r hr => ?_, fun r hr => ?_, fun x hx => ?_, fun x hx => ?_, ?_, ?_, ?_, fun x hx => ?_, fun x hx => ?_, h.ex, ?_, ?_, ?_, ?_, ?_, h.pp⟩
 ·rcases List.mem_append.1 hr with hr | hr
  ·rcases List.mem_append.1 hr with hr | hr
   ·exact h.p17 r hr
   ·rw [List.mem_singleton.1 hr]; exact hk.op
  ·rw [List.mem_singleton.1 hr]; exact hk.rp
 ·rcases List.mem_append.1 hr with hr | hr
  ·rcases List.mem_append.1 hr with hr | hr
   ·obtain ⟨x, hx, q⟩ := h.own r hr
    exact ⟨x, List.mem_append.2 (.inl hx), q⟩
   ·rw [List.mem_singleton.1 hr]; exact ⟨f, by rw [hfs]; simp, .inl ho1, rfl⟩
  ·rw [List.mem_singleton.1 hr]; exact ⟨f, by rw [hfs]; simp, .inr hr1, rfl⟩
 ·rcases List.mem_append.1 hx with hx | hx
  ·obtain ⟨r, hr, q⟩ := h.ho x hx
   exact ⟨r, by simp [hr], q⟩
  ·rw [List.mem_singleton.1 hx]; exact ⟨_, by simp, ho1, rfl⟩
 ·rcases List.mem_append.1 hx with hx | hx
  ·obtain ⟨r, hr, q⟩ := h.hr x hx
   exact ⟨r, by simp [hr], q⟩
  ·rw [List.mem_singleton.1 hx]; exact ⟨_, by simp, hr1, rfl⟩
 ·rw [hfs, List.map_append]
  refine List.nodup_append.2 ⟨h.nd, by simp, fun a ha b hb => ?_⟩
  obtain ⟨x, hx, rfl⟩ := List.mem_map.1 ha
  have : b = f.id := by simpa using hb
  have := (h.ib x hx).2
  omega
 ·intro x hx y hy e
  rcases List.mem_append.1 hx with hx | hx <;> rcases List.mem_append.1 hy with hy | hy
  ·exact h.bl x hx y hy e
  ·rw [List.mem_singleton.1 hy] at e; exact absurd e (hb x hx)
  ·rw [List.mem_singleton.1 hx] at e; exact absurd e.symm (hb y hy)
  ·rw [List.mem_singleton.1 hx, List.mem_singleton.1 hy]
 ·show EsI (s.fe.push _) (s.cf + 1)
  refine ⟨fun e he => ?_, fun e he => ?_, ?_⟩
  ·rw [Array.toList_push] at he
   rcases List.mem_append.1 he with he | he
   ·exact h.es.ki e he
   ·rw [List.mem_singleton.1 he]; exact ⟨_, rfl⟩
  ·rw [Array.toList_push] at he
   rcases List.mem_append.1 he with he | he
   ·have := h.es.bn e he; omega
   ·rw [List.mem_singleton.1 he]; show s.cf < s.cf + 1; omega
  ·rw [Array.toList_push, List.map_append]
   refine List.nodup_append.2 ⟨h.es.nd, by simp, fun a ha b hb => ?_⟩
   obtain ⟨x, hx, rfl⟩ := List.mem_map.1 ha
   have : b = s.cf := by simpa using hb
   have := h.es.bn x hx
   omega
 ·rcases List.mem_append.1 hx with hx | hx
  ·exact h.fl x hx
  ·rw [List.mem_singleton.1 hx]; exact hk
 ·have hb0 := h.bg
  show 0 ≤ x.id ∧ x.id < s.bg + 1
  rcases List.mem_append.1 hx with hx | hx
  ·have := h.ib x hx; omega
  ·rw [List.mem_singleton.1 hx, hid]; omega
 ·rw [hcn, hfs, List.length_append, h.cn]
  simp only [List.length_cons, List.length_nil]
  omega
 ·rw [hfs, List.length_append]
  simp only [List.length_cons, List.length_nil]
  omega
 ·rw [List.length_append, List.length_append, hfs, List.length_append]
  simp only [List.length_cons, List.length_nil]
  have := h.ll
  omega
 ·rw [htr]
  have := h.tr
  omega
 ·have := h.bg
  show 0 ≤ s.bg + 1 ∧ s.bg + 1 ≤ T + 2
  omega
def ltR (x y : Rw) : Bool := decide (ordv x y < 0)
def insF (x : Rw) (P : List Rw) : List Rw := (P.reverse.dropWhile (ltR x)).reverse ++ x :: (P.reverse.takeWhile (ltR x)).reverse
theorem insF_eq {x : Rw} {A B : List Rw} (hB : ∀ e ∈ B, ltR x e = true) (hA : ∀ e, A.getLast? = some e → ltR x e = false) : insF x (A ++ B) = A ++ x :: B := by
 have hB' : ∀ e ∈ B.reverse, ltR x e = true := fun e he => hB e (List.mem_reverse.1 he)
 have h1 : (B.reverse ++ A.reverse).takeWhile (ltR x) = B.reverse ++ A.reverse.takeWhile (ltR x) := List.takeWhile_append_of_pos hB'
 have h2 : (B.reverse ++ A.reverse).dropWhile (ltR x) = A.reverse.dropWhile (ltR x) := List.dropWhile_append_of_pos hB'
 have h3 : A.reverse.takeWhile (ltR x) = [] ∧ A.reverse.dropWhile (ltR x) = A.reverse := by
  cases hr : A.reverse with
  | nil => simp
  | cons e t =>
   have := hA e (by rw [List.getLast?_eq_head?_reverse, hr]; rfl)
   simp [List.takeWhile_cons, List.dropWhile_cons, this]
 unfold insF
 rw [List.reverse_append, h1, h2, h3.1, h3.2]
 simp
theorem insF_length (x : Rw) (P : List Rw) : (insF x P).length = P.length + 1 := by
 have := congrArg List.length (List.takeWhile_append_dropWhile (p := ltR x) (l := P.reverse))
 rw [List.length_append, List.length_reverse] at this
 unfold insF
 rw [List.length_append, List.length_cons, List.length_reverse, List.length_reverse]
 omega
def isort (l : List Rw) : List Rw := l.foldl (fun P x => insF x P) []
theorem isort_snoc (l : List Rw) (x : Rw) : isort (l ++ [x]) = insF x (isort l) := by unfold isort; simp
theorem isort_length (l : List Rw) : (isort l).length = l.length := by
 have : ∀ (m : List Rw) (P : List Rw), (m.foldl (fun P x => insF x P) P).length = P.length + m.length := by
  intro m
  induction m with
  | nil => intro P; simp
  | cons x m ih => intro P; rw [List.foldl_cons, ih, insF_length]; simp; omega
 unfold isort
 rw [this]
 simp
theorem insert_any (g cap : Nat) (l : List Rw) (post : List Value) (w : World) (hl1 : 1 ≤ l.length) (hl : l.length ≤ 12) (hcap : l.length ≤ cap ∧ cap ≤ 9223372036854775807)
  (hh : w.heap[g]? = some (.cells (rws l ++ post).toArray 177 (0, 0))) :
  Calls Tryz.prog 164 #[.slice (some ⟨g, 0, none⟩) l.length cap, .int .i64 0, .int .i64 (l.length : Int), .func (.func 74) #[] #[]] w fun e w' => (∃ u, e = .returned u) ∧ w'.heap[g]? = some (.cells (rws (isort l) ++ post).toArray 177 (0, 0)) ∧ But (fun b => b = g) w w' := by
 go_enter Tryz.func164, Tryz.ntmps164
 go_wp2_with fail
 go_loopw [8] (fun i wr => ∃ k : Nat, 1 ≤ k ∧ k ≤ l.length ∧ i = .int .i64 (k : Int) ∧ wr.heap[g]? = some (.cells (rws (isort (l.take k) ++ l.drop k) ++ post).toArray 177 (0, 0)) ∧ But (fun b => b = g) w wr) (fun i _ => l.length - (intOf i).toNat)
 case atStart => exact ⟨1, by omega, by omega, rfl, by
  have : isort (l.take 1) ++ l.drop 1 = l := by
   cases l with
   | nil => simp at hl1
   | cons x l => simp [isort, insF]
  rw [this]
  exact hh, But.refl _ _⟩
 case round =>
  obtain ⟨k, hk1, hk, rfl, hcr, hbt⟩ := hrel
  rename World => w1
  by_cases hlt : k < l.length
  ·have hlt' : (k : Int) < l.length := by omega
   have hP : (isort (l.take k)).length = k := by rw [isort_length, List.length_take]; omega
   have htk : isort (l.take (k + 1)) = insF l[k] (isort (l.take k)) := by rw [← List.take_append_getElem hlt, isort_snoc]
   have hdk : l.drop k = l[k] :: l.drop (k + 1) := List.drop_eq_getElem_cons hlt
   rw [hdk] at hcr
   have HTK := hide htk
   clear htk hdk
   generalize l[k] = x at *
   generalize isort (l.take k) = P at *
   generalize hsf : l.drop (k + 1) = suf at *
   have hsl : suf.length = l.length - (k + 1) := by rw [← hsf, List.length_drop]
   have HSF := hide hsf
   clear hsf
   go_wp2_with fail
   go_loopw [9] (fun j wr => ∃ A B, P = A ++ B ∧ j = .int .i64 (A.length : Int) ∧ (∀ e ∈ B, ltR x e = true) ∧ wr.heap[g]? = some (.cells (rws A ++ (rwc x ++ (rws (B ++ suf) ++ post))).toArray 177 (0, 0)) ∧ But (fun b => b = g) w wr) (fun j _ => (intOf j).toNat)
   case atStart => exact ⟨P, [], by simp, by rw [hP], by simp, by rw [hcr, rws_append, rws_cons]; simp, hbt⟩
   case round =>
    obtain ⟨A, B, hAB, rfl, hB, hci, hbi⟩ := hrel
    rename World => w2
    rcases List.eq_nil_or_concat A with rfl | ⟨A', y, rfl⟩
    ·simp only [List.length_nil]
     go_upto_region 4 with fail
     go_quiet (fail)
     rw [List.nil_append] at hAB
     have ld : Later w2 (w2.drewN nq) := below_draw (Below.refl _ _) nq
     have hcd := later_keep ld hci
     have hbd := hbi.trans (But.of ld)
     have HREL : Hid (∃ k' : Nat, 1 ≤ k' ∧ k' ≤ l.length ∧ (Value.int .i64 ((k : Int) + 1)) = .int .i64 (k' : Int) ∧ (w2.drewN nq).heap[g]? = some (.cells (rws (isort (l.take k') ++ l.drop k') ++ post).toArray 177 (0, 0)) ∧ But (fun b => b = g) w (w2.drewN nq)) :=
      ⟨k + 1, by omega, by omega, by simp, by
       have hin := insF_eq (A := []) hB (fun e he => by cases he)
       rw [List.nil_append] at hin
       rw [HTK.out, HSF.out, hAB, hin, hcd]
       simp [rws], hbd⟩
     go_wp2_with fail
     go_roundw
     case rel => exact HREL.out
     case measure => simp [intOf]; omega
    ·have hrl : (rws A').length = A'.length * 8 := rws_length _
     have hci' : w2.heap[g]? = some (.cells (rws A' ++ (rwc y ++ (rwc x ++ (rws (B ++ suf) ++ post)))).toArray 177 (0, 0)) := by rw [hci]; simp [rws]
     have hlp : (A' ++ [y]).length = A'.length + 1 := by simp
     have hkl : k = A'.length + 1 + B.length := by rw [← hP, hAB]; simp; omega
     clear hci hcr
     try simp only [List.concat_eq_append] at *
     generalize hpp : (A' ++ [y]).length = p at *
     generalize hqq : A'.length = q at *
     have HPP := hide hpp
     have HQQ := hide hqq
     have HAB := hide hAB
     clear hpp hqq hAB
     have e9 : (p : Int) - 1 = (q : Int) := by omega
     have g0 : (0 : Int) < (p : Int) := by omega
     have g00 : 0 < p := by omega
     have q1 : (q : Int) < l.length := by omega
     have p1 : (p : Int) < l.length := by omega
     have HLP := hide hlp
     have HWR : Hid (IntKind.i64.wrap (q : Int) = (q : Int)) := by
      have : (q : Int) < 12 := by omega
      show _ = _
      simp [IntKind.wrap, IntKind.bits, IntKind.signed]
      omega
     clear hlp hkl
     go_upto_region 4 with fail
     refine anyT_begin (R := Later) 17 rfl (by kernel_rfl) ?_
     have ld : Later w2 w2.drew := Later.drew w2
     have hcd := later_keep ld hci'
     have hbd := hbi.trans (But.of ld)
     clear hci' hbi ld
     generalize w2.drew = Wd at *
     have HY : Hid (∀ v1, Later Wd v1 → ∀ i, i < 8 → v1.cell? ⟨g, q * 8 + i, none⟩ = (rwc y)[i]?) := fun v1 h i hi => by
      rw [block_cell (later_keep h hcd), List.getElem?_toArray, List.getElem?_append_right (by omega), hrl, Nat.add_sub_cancel_left, List.getElem?_append_left (by rw [rwc_length]; exact hi)]
     have HX : Hid (∀ v1, Later Wd v1 → ∀ i, i < 8 → v1.cell? ⟨g, p * 8 + i, none⟩ = (rwc x)[i]?) := fun v1 h i hi => by
      have hlp := HLP.out; rw [block_cell (later_keep h hcd), List.getElem?_toArray, List.getElem?_append_right (by omega), hrl, List.getElem?_append_right (by rw [rwc_length]; omega), rwc_length, show p * 8 + i - q * 8 - 8 = i from by omega, List.getElem?_append_left (by rw [rwc_length]; exact hi)]
     have y0 : ∀ v1, Later Wd v1 → v1.cell? ⟨g, q * 8, none⟩ = some (.int .u8 y.p) := fun v1 h => (HY.out v1 h 0 (by omega))
     have y1 : ∀ v1, Later Wd v1 → v1.cell? ⟨g, q * 8 + 1, none⟩ = some (.int .u32 y.s) := fun v1 h => (HY.out v1 h 1 (by omega))
     have y2 : ∀ v1, Later Wd v1 → v1.cell? ⟨g, q * 8 + 2, none⟩ = some (.int .u32 y.d) := fun v1 h => (HY.out v1 h 2 (by omega))
     have y3 : ∀ v1, Later Wd v1 → v1.cell? ⟨g, q * 8 + 3, none⟩ = some (.int .u16 y.a) := fun v1 h => (HY.out v1 h 3 (by omega))
     have y4 : ∀ v1, Later Wd v1 → v1.cell? ⟨g, q * 8 + 4, none⟩ = some (.int .u16 y.b) := fun v1 h => (HY.out v1 h 4 (by omega))
     have y5 : ∀ v1, Later Wd v1 → v1.cell? ⟨g, q * 8 + 5, none⟩ = some (.int .i64 y.id) := fun v1 h => (HY.out v1 h 5 (by omega))
     have y6 : ∀ v1, Later Wd v1 → v1.cell? ⟨g, q * 8 + 6, none⟩ = some (.int .i64 y.till) := fun v1 h => (HY.out v1 h 6 (by omega))
     have y7 : ∀ v1, Later Wd v1 → v1.cell? ⟨g, q * 8 + 7, none⟩ = some (.int .i64 y.turn) := fun v1 h => (HY.out v1 h 7 (by omega))
     have x0 : ∀ v1, Later Wd v1 → v1.cell? ⟨g, p * 8, none⟩ = some (.int .u8 x.p) := fun v1 h => (HX.out v1 h 0 (by omega))
     have x1 : ∀ v1, Later Wd v1 → v1.cell? ⟨g, p * 8 + 1, none⟩ = some (.int .u32 x.s) := fun v1 h => (HX.out v1 h 1 (by omega))
     have x2 : ∀ v1, Later Wd v1 → v1.cell? ⟨g, p * 8 + 2, none⟩ = some (.int .u32 x.d) := fun v1 h => (HX.out v1 h 2 (by omega))
     have x3 : ∀ v1, Later Wd v1 → v1.cell? ⟨g, p * 8 + 3, none⟩ = some (.int .u16 x.a) := fun v1 h => (HX.out v1 h 3 (by omega))
     have x4 : ∀ v1, Later Wd v1 → v1.cell? ⟨g, p * 8 + 4, none⟩ = some (.int .u16 x.b) := fun v1 h => (HX.out v1 h 4 (by omega))
     have x5 : ∀ v1, Later Wd v1 → v1.cell? ⟨g, p * 8 + 5, none⟩ = some (.int .i64 x.id) := fun v1 h => (HX.out v1 h 5 (by omega))
     have x6 : ∀ v1, Later Wd v1 → v1.cell? ⟨g, p * 8 + 6, none⟩ = some (.int .i64 x.till) := fun v1 h => (HX.out v1 h 6 (by omega))
     have x7 : ∀ v1, Later Wd v1 → v1.cell? ⟨g, p * 8 + 7, none⟩ = some (.int .i64 x.turn) := fun v1 h => (HX.out v1 h 7 (by omega))
     refine tV Later.pre 0 rfl rfl ⟨_, fun v h => by (go_simp; rfl), ?_⟩; simp only [Act.put, sA, sB, sC]
     refine tV Later.pre 1 rfl rfl ⟨_, fun v h => by (go_simp; rfl), ?_⟩; simp only [Act.put, sA, sB, sC]
     refine tV Later.pre 2 rfl rfl ?_
     refine ⟨.bool true, fun v1 hv1 => ?_, ?_⟩
     ·go_simp
      try simp [g00, g0]
     simp only [Act.put, sA, sB, sC]
     refine tV Later.pre 3 rfl rfl ⟨_, fun v h => by (go_simp; rfl), ?_⟩; simp only [Act.put, sA, sB, sC]
     refine anyT_valG Later.pre 4 rfl (by kernel_rfl) (by kernel_rfl) (by kernel_rfl) (fun _ _ _ _ h => h) (by rfl) ⟨_, fun v h => by (go_simp; rfl), ?_⟩; simp only [Act.put, sA, sB, sC]
     refine anyT_valG Later.pre 5 rfl (by kernel_rfl) (by kernel_rfl) (by kernel_rfl) (fun _ _ _ _ h => h) (by rfl) ⟨_, fun v h => by (go_simp; rfl), ?_⟩; simp only [Act.put, sA, sB, sC]
     refine anyT_valG Later.pre 6 rfl (by kernel_rfl) (by kernel_rfl) (by kernel_rfl) (fun _ _ _ _ h => h) (by rfl) ⟨_, fun v h => by (go_simp; rfl), ?_⟩; simp only [Act.put, sA, sB, sC]
     refine anyT_valG Later.pre 7 rfl (by kernel_rfl) (by kernel_rfl) (by kernel_rfl) (fun _ _ _ _ h => h) (by rfl) ⟨_, fun v h => by (go_simp; rfl), ?_⟩; simp only [Act.put, sA, sB, sC]
     refine anyT_valG Later.pre 8 rfl (by kernel_rfl) (by kernel_rfl) (by kernel_rfl) (fun _ _ _ _ h => h) (by rfl) ⟨_, fun v h => by (go_simp; rfl), ?_⟩; simp only [Act.put, sA, sB, sC]
     refine anyT_valG Later.pre 9 rfl (by kernel_rfl) (by kernel_rfl) (by kernel_rfl) (fun _ _ _ _ h => h) (by rfl) ⟨_, fun v h => by (go_simp; rfl), ?_⟩; simp only [Act.put, sA, sB, sC]
     refine anyT_valG Later.pre 10 rfl (by kernel_rfl) (by kernel_rfl) (by kernel_rfl) (fun _ _ _ _ h => h) (by rfl) ⟨_, fun v h => by (go_simp; rfl), ?_⟩; simp only [Act.put, sA, sB, sC]
     refine anyT_valG Later.pre 11 rfl (by kernel_rfl) (by kernel_rfl) (by kernel_rfl) (fun _ _ _ _ h => h) (by rfl) ?_; refine ⟨.int .i64 (q : Int), fun v1 hv1 => ?_, ?_⟩; (· (go_simp; rw [HWR.out])); simp only [Act.put, sA, sB, sC]
     refine anyT_valG Later.pre 12 rfl (by kernel_rfl) (by kernel_rfl) (by kernel_rfl) (fun _ _ _ _ h => h) (by rfl) ⟨_, fun v h => by (go_simp; rfl), ?_⟩; simp only [Act.put, sA, sB, sC]
     refine anyT_valG Later.pre 13 rfl (by kernel_rfl) (by kernel_rfl) (by kernel_rfl) (fun _ _ _ _ h => h) (by rfl) ⟨_, fun v h => by (go_simp; rfl), ?_⟩; simp only [Act.put, sA, sB, sC]
     clear y0 y1 y2 y3 y4 y5 y6 y7 x0 x1 x2 x3 x4 x5 x6 x7
     refine anyT_oneG 14 rfl (by kernel_rfl) (by rfl) ?_
     refine wp_enter 74 #[.agg #[.int .u8 x.p, .int .u32 x.s, .int .u32 x.d, .int .u16 x.a, .int .u16 x.b, .int .i64 x.id, .int .i64 x.till, .int .i64 x.turn], .agg #[.int .u8 y.p, .int .u32 y.s, .int .u32 y.d, .int .u16 y.a, .int .u16 y.b, .int .i64 y.id, .int .i64 y.till, .int .i64 y.turn]] (by go_simp) ?_
     refine (inOrder_any x y Wd).mono ?_
     rintro e W1 ⟨rfl, hb1⟩
     have m1 : Later Wd W1 := hb1
     refine ⟨m1, ?_⟩
     simp only [Act.put, sA, sB, sC]
     have hc1 := later_keep m1 hcd
     have hb1' := hbd.trans (But.of m1)
     clear hcd hbd m1 hb1 HY HX
     have HLT : Hid (ltR x y = decide (ordv x y < 0)) := rfl
     generalize ordv x y = o at *
     by_cases ho : o < 0
     ·refine anyT_valG Later.pre 15 rfl (by kernel_rfl) (by kernel_rfl) (by kernel_rfl) (fun _ _ _ _ h => h) (by rfl) ⟨_, fun v h => by (go_simp; rfl), ?_⟩; simp only [Act.put, sA, sB, sC]
      refine tV Later.pre 16 rfl rfl ⟨_, fun v h => by (go_simp; rfl), ?_⟩; simp only [Act.put, sA, sB, sC]
      refine anyT_done (by kernel_rfl) ?_
      go_upto_region 6 with fail
      refine anyU_begin (R1 := Later) (R2 := But (fun b => b = g)) (D := [15, 17]) 18 rfl (by kernel_rfl) ?_
      have ld : Later W1 W1.drew := Later.drew W1
      have hcd := later_keep ld hc1
      have hbd := hb1'.trans (But.of ld)
      clear hc1 hb1' ld
      generalize W1.drew = We at *
      have HYe : Hid (∀ v1, Later We v1 → ∀ i, i < 8 → v1.cell? ⟨g, q * 8 + i, none⟩ = (rwc y)[i]?) := fun v1 h i hi => by
       rw [block_cell (later_keep h hcd), List.getElem?_toArray, List.getElem?_append_right (by omega), hrl, Nat.add_sub_cancel_left, List.getElem?_append_left (by rw [rwc_length]; exact hi)]
      have HXe : Hid (∀ v1, Later We v1 → ∀ i, i < 8 → v1.cell? ⟨g, p * 8 + i, none⟩ = (rwc x)[i]?) := fun v1 h i hi => by
       have hlp := HLP.out; rw [block_cell (later_keep h hcd), List.getElem?_toArray, List.getElem?_append_right (by omega), hrl, List.getElem?_append_right (by rw [rwc_length]; omega), rwc_length, show p * 8 + i - q * 8 - 8 = i from by omega, List.getElem?_append_left (by rw [rwc_length]; exact hi)]
      have y0e : ∀ v1, Later We v1 → v1.cell? ⟨g, q * 8, none⟩ = some (.int .u8 y.p) := fun v1 h => (HYe.out v1 h 0 (by omega))
      have y1e : ∀ v1, Later We v1 → v1.cell? ⟨g, q * 8 + 1, none⟩ = some (.int .u32 y.s) := fun v1 h => (HYe.out v1 h 1 (by omega))
      have y2e : ∀ v1, Later We v1 → v1.cell? ⟨g, q * 8 + 2, none⟩ = some (.int .u32 y.d) := fun v1 h => (HYe.out v1 h 2 (by omega))
      have y3e : ∀ v1, Later We v1 → v1.cell? ⟨g, q * 8 + 3, none⟩ = some (.int .u16 y.a) := fun v1 h => (HYe.out v1 h 3 (by omega))
      have y4e : ∀ v1, Later We v1 → v1.cell? ⟨g, q * 8 + 4, none⟩ = some (.int .u16 y.b) := fun v1 h => (HYe.out v1 h 4 (by omega))
      have y5e : ∀ v1, Later We v1 → v1.cell? ⟨g, q * 8 + 5, none⟩ = some (.int .i64 y.id) := fun v1 h => (HYe.out v1 h 5 (by omega))
      have y6e : ∀ v1, Later We v1 → v1.cell? ⟨g, q * 8 + 6, none⟩ = some (.int .i64 y.till) := fun v1 h => (HYe.out v1 h 6 (by omega))
      have y7e : ∀ v1, Later We v1 → v1.cell? ⟨g, q * 8 + 7, none⟩ = some (.int .i64 y.turn) := fun v1 h => (HYe.out v1 h 7 (by omega))
      have x0e : ∀ v1, Later We v1 → v1.cell? ⟨g, p * 8, none⟩ = some (.int .u8 x.p) := fun v1 h => (HXe.out v1 h 0 (by omega))
      have x1e : ∀ v1, Later We v1 → v1.cell? ⟨g, p * 8 + 1, none⟩ = some (.int .u32 x.s) := fun v1 h => (HXe.out v1 h 1 (by omega))
      have x2e : ∀ v1, Later We v1 → v1.cell? ⟨g, p * 8 + 2, none⟩ = some (.int .u32 x.d) := fun v1 h => (HXe.out v1 h 2 (by omega))
      have x3e : ∀ v1, Later We v1 → v1.cell? ⟨g, p * 8 + 3, none⟩ = some (.int .u16 x.a) := fun v1 h => (HXe.out v1 h 3 (by omega))
      have x4e : ∀ v1, Later We v1 → v1.cell? ⟨g, p * 8 + 4, none⟩ = some (.int .u16 x.b) := fun v1 h => (HXe.out v1 h 4 (by omega))
      have x5e : ∀ v1, Later We v1 → v1.cell? ⟨g, p * 8 + 5, none⟩ = some (.int .i64 x.id) := fun v1 h => (HXe.out v1 h 5 (by omega))
      have x6e : ∀ v1, Later We v1 → v1.cell? ⟨g, p * 8 + 6, none⟩ = some (.int .i64 x.till) := fun v1 h => (HXe.out v1 h 6 (by omega))
      have x7e : ∀ v1, Later We v1 → v1.cell? ⟨g, p * 8 + 7, none⟩ = some (.int .i64 x.turn) := fun v1 h => (HXe.out v1 h 7 (by omega))
      refine uP Later.refl (But.refl _) 0 rfl (by rfl) ⟨_, fun v => by (go_simp; rfl), ?_⟩; simp only [Act.put, sA, sB, sC]
      refine uP Later.refl (But.refl _) 1 rfl (by rfl) ⟨_, fun v => by (go_simp; rfl), ?_⟩; simp only [Act.put, sA, sB, sC]
      refine uP Later.refl (But.refl _) 2 rfl (by rfl) ⟨_, fun v => by (go_simp; rfl), ?_⟩; simp only [Act.put, sA, sB, sC]
      refine uP Later.refl (But.refl _) 3 rfl (by rfl) ⟨_, fun v => by (go_simp; rfl), ?_⟩; simp only [Act.put, sA, sB, sC]
      refine uP Later.refl (But.refl _) 4 rfl (by rfl) ?_; refine ⟨.int .i64 (q : Int), fun v1 => ?_, ?_⟩; (· (go_simp; rw [HWR.out])); simp only [Act.put, sA, sB, sC]
      refine uP Later.refl (But.refl _) 5 rfl (by rfl) ⟨_, fun v => by (go_simp; rfl), ?_⟩; simp only [Act.put, sA, sB, sC]
      refine uP Later.refl (But.refl _) 6 rfl (by rfl) ⟨_, fun v => by (go_simp; rfl), ?_⟩; simp only [Act.put, sA, sB, sC]
      refine uP Later.refl (But.refl _) 7 rfl (by rfl) ?_; refine ⟨.int .i64 (q : Int), fun v1 => ?_, ?_⟩; (· (go_simp; rw [HWR.out])); simp only [Act.put, sA, sB, sC]
      refine uP Later.refl (But.refl _) 8 rfl (by rfl) ⟨_, fun v => by (go_simp; rfl), ?_⟩; simp only [Act.put, sA, sB, sC]
      refine anyU_val Later.pre 9 [15, 17] rfl (by rfl) (by rfl) (by kernel_rfl) (by kernel_rfl) (by kernel_rfl) (by kernel_rfl) (by kernel_rfl) (fun _ _ _ _ h => h) (by rfl) ⟨_, fun v h => by (go_simp; rfl), ?_⟩; simp only [Act.put, sA, sB, sC]
      refine uP Later.refl (But.refl _) 10 rfl (by rfl) ⟨_, fun v => by (go_simp; rfl), ?_⟩; simp only [Act.put, sA, sB, sC]
      refine uP Later.refl (But.refl _) 11 rfl (by rfl) ⟨_, fun v => by (go_simp; rfl), ?_⟩; simp only [Act.put, sA, sB, sC]
      refine uP Later.refl (But.refl _) 12 rfl (by rfl) ⟨_, fun v => by (go_simp; rfl), ?_⟩; simp only [Act.put, sA, sB, sC]
      refine anyU_val Later.pre 13 [15, 17] rfl (by rfl) (by rfl) (by kernel_rfl) (by kernel_rfl) (by kernel_rfl) (by kernel_rfl) (by kernel_rfl) (fun _ _ _ _ h => h) (by rfl) ⟨_, fun v h => by (go_simp; rfl), ?_⟩; simp only [Act.put, sA, sB, sC]
      refine uP Later.refl (But.refl _) 14 rfl (by rfl) ⟨_, fun v => by (go_simp; rfl), ?_⟩; simp only [Act.put, sA, sB, sC]
      have c0 := x0e We (Later.refl We)
      have c1 := x1e We (Later.refl We)
      have c2 := x2e We (Later.refl We)
      have c3 := x3e We (Later.refl We)
      have c4 := x4e We (Later.refl We)
      have c5 := x5e We (Later.refl We)
      have c6 := x6e We (Later.refl We)
      have c7 := x7e We (Later.refl We)
      clear y0e y1e y2e y3e y4e y5e y6e y7e x0e x1e x2e x3e x4e x5e x6e x7e
      have Fe := block_frozen hcd
      have hput : (putRow We g (p * 8) (rwc y)).heap[g]? = some (.cells (rws A' ++ (rwc y ++ (rwc y ++ (rws (B ++ suf) ++ post)))).toArray 177 (0, 0)) := by
       have := putRow_mid (rwc y) (rws A' ++ rwc y) (rwc x) (rws (B ++ suf) ++ post) We (by rw [hcd, List.append_assoc]) rfl
       have hlp := HLP.out
       rw [List.length_append, hrl, rwc_length, show q * 8 + 8 = p * 8 from by omega, List.append_assoc] at this
       exact this
      have hbp : But (fun b => b = g) We (putRow We g (p * 8) (rwc y)) := putRow_but (E := fun b => b = g) rfl _ _ _ _ (But.refl _ _)
      have HPUT := hide hput
      have HBP := hide hbp
      clear hput hbp
      refine anyU_one 15 rfl (by kernel_rfl) (by rfl) ?_
      unfold Oper.wp
      go_simp
      refine ⟨Rj_in (by rfl) HBP.out, ?_⟩
      change wpAnyU _ _ _ _ _ _ _ _ _ _ (putRow We g (p * 8) (rwc y))
      have hp1 := HPUT.out
      have hbf := hbd.trans HBP.out
      clear c0 c1 c2 c3 c4 c5 c6 c7 HPUT HBP hcd hbd Fe HYe HXe
      generalize putRow We g (p * 8) (rwc y) = Wf at *
      have hyf : ∀ i, i < 8 → Wf.cell? ⟨g, q * 8 + i, none⟩ = (rwc y)[i]? := fun i hi => by
       rw [block_cell hp1, List.getElem?_toArray, List.getElem?_append_right (by omega), hrl, Nat.add_sub_cancel_left, List.getElem?_append_left (by rw [rwc_length]; exact hi)]
      have c0 : Wf.cell? ⟨g, q * 8, none⟩ = some (.int .u8 y.p) := hyf 0 (by omega)
      have c1 : Wf.cell? ⟨g, q * 8 + 1, none⟩ = some (.int .u32 y.s) := hyf 1 (by omega)
      have c2 : Wf.cell? ⟨g, q * 8 + 2, none⟩ = some (.int .u32 y.d) := hyf 2 (by omega)
      have c3 : Wf.cell? ⟨g, q * 8 + 3, none⟩ = some (.int .u16 y.a) := hyf 3 (by omega)
      have c4 : Wf.cell? ⟨g, q * 8 + 4, none⟩ = some (.int .u16 y.b) := hyf 4 (by omega)
      have c5 : Wf.cell? ⟨g, q * 8 + 5, none⟩ = some (.int .i64 y.id) := hyf 5 (by omega)
      have c6 : Wf.cell? ⟨g, q * 8 + 6, none⟩ = some (.int .i64 y.till) := hyf 6 (by omega)
      have c7 : Wf.cell? ⟨g, q * 8 + 7, none⟩ = some (.int .i64 y.turn) := hyf 7 (by omega)
      clear hyf
      refine uP Later.refl (But.refl _) 16 rfl (by rfl) ⟨_, fun v => by (go_simp; rfl), ?_⟩; simp only [Act.put, sA, sB, sC]
      have Ff := block_frozen hp1
      have hput : (putRow Wf g (q * 8) (rwc x)).heap[g]? = some (.cells (rws A' ++ (rwc x ++ (rwc y ++ (rws (B ++ suf) ++ post)))).toArray 177 (0, 0)) := by
       have := putRow_mid (rwc x) (rws A') (rwc y) (rwc y ++ (rws (B ++ suf) ++ post)) Wf hp1 rfl
       rw [hrl] at this
       exact this
      have hbp : But (fun b => b = g) Wf (putRow Wf g (q * 8) (rwc x)) := putRow_but (E := fun b => b = g) rfl _ _ _ _ (But.refl _ _)
      have HPUT := hide hput
      have HBP := hide hbp
      clear hput hbp
      refine anyU_one 17 rfl (by kernel_rfl) (by rfl) ?_
      unfold Oper.wp
      go_simp
      refine ⟨Rj_in (by rfl) HBP.out, ?_⟩
      change wpAnyU _ _ _ _ _ _ _ _ _ _ (putRow Wf g (q * 8) (rwc x))
      have hp2 := HPUT.out
      have hbg := hbf.trans HBP.out
      clear c0 c1 c2 c3 c4 c5 c6 c7 HPUT HBP hp1 hbf Ff
      generalize putRow Wf g (q * 8) (rwc x) = Wg at *
      refine anyU_done (by kernel_rfl) ?_
      have HREL : Hid (∃ A B, P = A ++ B ∧ (Value.int .i64 (q : Int)) = .int .i64 (A.length : Int) ∧ (∀ e ∈ B, ltR x e = true) ∧ Wg.heap[g]? = some (.cells (rws A ++ (rwc x ++ (rws (B ++ suf) ++ post))).toArray 177 (0, 0)) ∧ But (fun b => b = g) w Wg) :=
       ⟨A', y :: B, by rw [HAB.out]; simp, by rw [HQQ.out], fun e he => by
        rcases List.mem_cons.1 he with rfl | he
        ·rw [HLT.out]; simpa using ho
        ·exact hB e he, by rw [hp2, List.cons_append, rws_cons]; simp, hbg⟩
      go_wp2_with fail
      go_roundw
      case rel => exact HREL.out
      case measure => simp [intOf]; omega
     ·refine anyT_valG Later.pre 15 rfl (by kernel_rfl) (by kernel_rfl) (by kernel_rfl) (fun _ _ _ _ h => h) (by rfl) ⟨_, fun v h => by (go_simp; rfl), ?_⟩; simp only [Act.put, sA, sB, sC]
      refine tV Later.pre 16 rfl rfl ⟨_, fun v h => by (go_simp; rfl), ?_⟩; simp only [Act.put, sA, sB, sC]
      refine anyT_done (by kernel_rfl) ?_
      have HREL : Hid (∃ k' : Nat, 1 ≤ k' ∧ k' ≤ l.length ∧ (Value.int .i64 ((k : Int) + 1)) = .int .i64 (k' : Int) ∧ W1.heap[g]? = some (.cells (rws (isort (l.take k') ++ l.drop k') ++ post).toArray 177 (0, 0)) ∧ But (fun b => b = g) w W1) :=
       ⟨k + 1, by omega, by omega, by simp, by
        rw [HTK.out, HSF.out, HAB.out, insF_eq hB (fun e he => by
         obtain rfl : e = y := by simpa using he.symm
         rw [HLT.out]; simpa using ho), hc1]
        simp [rws], hb1'⟩
      go_wp2_with fail
      go_roundw
      case rel => exact HREL.out
      case measure => simp [intOf]; omega
  ·obtain rfl : k = l.length := by omega
   rw [List.take_length, List.drop_length, List.append_nil] at hcr
   go_wp2_with fail
   go_end0
   exact ⟨⟨_, rfl⟩, hcr, hbt⟩
theorem pdq_few (g cap : Nat) (l : List Rw) (post : List Value) (lm : Int) (w : World) (hl1 : 1 ≤ l.length) (hl : l.length ≤ 12) (hcap : l.length ≤ cap ∧ cap ≤ 9223372036854775807)
  (hh : w.heap[g]? = some (.cells (rws l ++ post).toArray 177 (0, 0))) :
  Calls Tryz.prog 131 #[.slice (some ⟨g, 0, none⟩) l.length cap, .int .i64 0, .int .i64 (l.length : Int), .int .i64 lm, .func (.func 74) #[] #[]] w fun e w' => (∃ u, e = .returned u) ∧ w'.heap[g]? = some (.cells (rws (isort l) ++ post).toArray 177 (0, 0)) ∧ But (fun b => b = g) w w' := by
 have h1 : (l.length : Int) ≤ 12 := by omega
 go_enter Tryz.func131, Tryz.ntmps131
 go_wp2_with fail
 go_loopw [1, 2] (fun a b wr => a = .int .i64 0 ∧ b = .int .i64 (l.length : Int) ∧ wr = w) (fun _ _ _ => 0)
 case atStart => exact ⟨rfl, rfl, rfl⟩
 case round =>
  obtain ⟨rfl, rfl, rfl⟩ := hrel
  go_wp2_with fail
  refine (insert_any g cap l post wr hl1 hl hcap hh).mono ?_
  rintro e w1 ⟨⟨v, rfl⟩, hc, hb⟩
  go_wp2_with fail
  refine bodyPost_ret (results_none rfl _ _ _) rfl ?_
  exact ⟨⟨_, rfl⟩, hc, hb⟩
theorem sorts_few (l : List Rw) (hl : l.length ≤ 12) : SortsTo l (isort l) := by
 by_cases h0 : l.length = 0
 ·obtain rfl : l = [] := List.eq_nil_of_length_eq_zero h0
  exact sorts_one [] (by simp)
 refine ⟨isort_length l, fun base v W hv => ?_⟩
 obtain ⟨h1, ⟨_, e⟩ | ⟨g, cap, cur, rfl, hgb, hh, hlc, hm, hs, hc⟩⟩ := hv
 ·exact absurd e h0
 obtain ⟨post, hpost⟩ : ∃ post, cur.toList = rws l ++ post := ⟨cur.toList.drop (l.length * 8), by rw [← hc, List.take_append_drop]⟩
 have hh' : W.heap[g]? = some (.cells (rws l ++ post).toArray 177 (0, 0)) := by
  rw [hh, ← hpost]
 have hn : (l.length : Int) ≤ 12 := by omega
 have hm' : cap ≤ 9223372036854775807 := by simpa [maxLen] using hm
 have hpl : (rws (isort l) ++ post).length = cur.size := by
  have := congrArg List.length hpost
  rw [List.length_append, rws_length, Array.length_toList] at this
  rw [List.length_append, rws_length, isort_length]
  omega
 have HF : Hid (∀ W' : World, W'.heap[g]? = some (.cells (rws (isort l) ++ post).toArray 177 (0, 0)) → W'.ownsRow base 177 8 (.slice (some ⟨g, 0, none⟩) l.length cap) l.length (rws (isort l))) := fun W' hW' => by
  refine ⟨by rw [rws_length, isort_length], .inr ⟨g, cap, _, rfl, hgb, hW', hlc, hm, ?_, ?_⟩⟩
  ·rw [List.size_toArray, hpl, hs]
  ·rw [List.toList_toArray, List.take_left' (by rw [rws_length, isort_length])]
 have HH := hide hh'
 clear hh hh' hc hs hpost hpl h1
 go_enter Tryz.func73, Tryz.ntmps73
 go_wp2_with fail
 refine (len_few l.length W hl).mono ?_
 rintro e w1 ⟨⟨v, rfl⟩, rfl⟩
 go_wp2_with fail
 refine (pdq_few g cap l post v w1 (by omega) hl ⟨hlc, hm'⟩ HH.out).mono ?_
 rintro e w2 ⟨⟨v2, rfl⟩, hc2, hb2⟩
 go_wp2_with fail
 go_end0
 exact ⟨⟨_, rfl⟩, HF.out _ hc2, ⟨hb2.os, hb2.tape, hb2.output, hb2.size, fun k hk he => hb2.block k hk (fun e => he (by rw [e]; rfl))⟩⟩
end Go.Proofs.YtofknbfbmaefoaaGreatDoor
