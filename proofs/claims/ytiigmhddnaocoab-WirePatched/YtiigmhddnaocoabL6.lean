/- The walk of the law WirePatched. -/
import Derived.Test.YtiigmhddnaocoabL3
import Derived.Test.YtiigmhddnaocoabW7
namespace Go.Proofs.Ytiigmhddnaocoab
open Go.RowKit

theorem tw_zero : ∀ (h : Bool) (zs : List Int), Mt.By zs → Mt.tw h zs = 0 → ∀ z ∈ zs, z = 0
  | _, [], _, _ => fun z hz => by cases hz
  | true, a :: r, hb, h => by
    have := Mt.tw_nonneg false r hb.cons.2
    have h1 := hb.cons.1
    simp only [Mt.tw] at h
    intro z hz
    rcases List.mem_cons.1 hz with rfl | hz
    · omega
    · exact tw_zero false r hb.cons.2 (by omega) z hz
  | false, a :: r, hb, h => by
    have := Mt.tw_nonneg true r hb.cons.2
    have h1 := hb.cons.1
    simp only [Mt.tw] at h
    intro z hz
    rcases List.mem_cons.1 hz with rfl | hz
    · omega
    · exact tw_zero true r hb.cons.2 (by omega) z hz

theorem patch_mod (T s' v was : Int) (hT : 0 ≤ T) (hw : 0 ≤ was ∧ was ≤ 65535) (hv : 0 ≤ v ∧ v ≤ 65535) (hs : s' = 65535 - Mt.fd (65535 - (65535 - Mt.fd T) + (65535 - was) + v)) : (T + v - was + s') % 65535 = 0 := by
  have e1 : (65535 - (65535 - Mt.fd T) + (65535 - was) + v) = Mt.fd T + (65535 - was + v) := by omega
  rw [e1, Mt.fd_add T _ hT (by omega)] at hs
  rw [hs]
  generalize hU : T + (65535 - was + v) = U
  have hU0 : 0 ≤ U := by omega
  unfold Mt.fd
  split <;> omega

/-- Good bytes whose sum is patched where a word changes are good, unless they are all 0 then. -/
theorem patched_good (z : List Int) (hB : Mt.By z) (k m : Nat) (hk : k % 2 = 0) (hm : m % 2 = 0) (hkm : k ≠ m) (hkl : k + 1 < z.length) (hml : m + 1 < z.length) (h0 : wat z k = 0) (v : Int) (hv : 0 ≤ v ∧ v ≤ 65535)
    (g : List Int) (hg : g = Mt.put2 z k (Mt.cks z)) (c : List Int) (hc : c = Mt.put2 (Mt.put2 g m v) k (65535 - Mt.fd (65535 - Mt.cks z + (65535 - wat g m) + v))) (hne : ¬ ∀ x ∈ c, x = 0) : Mt.cks c = 0 := by
  have hcb := Mt.cks_bd z
  have hwas : wat g m = wat z m := by rw [hg]; exact wat_put2_other z k m _ (by omega)
  have hwb := wat_bd hB m
  have hfd := Mt.fd_bd (65535 - Mt.cks z + (65535 - wat g m) + v)
  have hBg : Mt.By g := by rw [hg]; exact hB.put2 k hcb
  have hBc : Mt.By c := by rw [hc]; exact (hBg.put2 m hv).put2 k (by omega)
  have hlg : g.length = z.length := by rw [hg, Mt.put2_length]
  have t1 := Mt.tw_put2 z k (Mt.cks z) hk hkl
  rw [← hg] at t1
  have t2 := Mt.tw_put2 g m v hm (by omega)
  have t3 := Mt.tw_put2 (Mt.put2 g m v) k (65535 - Mt.fd (65535 - Mt.cks z + (65535 - wat g m) + v)) hk (by rw [Mt.put2_length]; omega)
  rw [← hc] at t3
  have e1 : wat (Mt.put2 g m v) k = Mt.cks z := by rw [wat_put2_other g m k v (by omega), hg, wat_put2 z k _ hkl hcb.1]
  unfold wat at e1 h0
  rw [e1] at t3
  rw [h0] at t1
  have e2 : g[m]?.getD 0 * 256 + g[m + 1]?.getD 0 = wat g m := rfl
  rw [e2, hwas] at t2
  rw [hwas] at t3
  have hT := Mt.tw_nonneg true z hB
  have hmod := patch_mod (Mt.tw true z) _ v (wat z m) hT hwb hv rfl
  have e3 : 65535 - Mt.fd (Mt.tw true z) = Mt.cks z := rfl
  rw [e3] at hmod
  have hall : (Mt.tw true c) % 65535 = 0 := by
    rw [t3, t2, t1]
    rw [show Mt.tw true z + Mt.cks z - 0 + v - wat z m + (65535 - Mt.fd (65535 - Mt.cks z + (65535 - wat z m) + v)) - Mt.cks z = Mt.tw true z + v - wat z m + (65535 - Mt.fd (65535 - Mt.cks z + (65535 - wat z m) + v)) from by omega]
    exact hmod
  have hpos : 0 < Mt.tw true c := by
    have := Mt.tw_nonneg true c hBc
    have : Mt.tw true c ≠ 0 := fun e => hne (tw_zero true c hBc e)
    omega
  show 65535 - Mt.fd (Mt.tw true c) = 0
  rw [Mt.fd_of _ hpos hall]
  omega

/-- Are the first k of them 0? -/
def allz (zs : List Int) (k : Nat) : Bool := (zs.take k).all (· == 0)
theorem allz_succ (zs : List Int) (k : Nat) (h : k < zs.length) : allz zs (k + 1) = (allz zs k && zs[k]?.getD 0 == 0) := by
  unfold allz; rw [Mt.take_one zs k h]; simp
theorem allz_all (zs : List Int) (h : allz zs zs.length = false) : ¬ ∀ x ∈ zs, x = 0 := by
  unfold allz at h
  rw [List.take_length] at h
  intro hx
  have : zs.all (· == 0) = true := List.all_eq_true.2 (fun x hx' => by simp [hx x hx'])
  rw [this] at h
  cases h

set_option maxHeartbeats 4000000 in
theorem walk_WirePatched (w : World) (sv : Value) (zs : List Int) (hB : Mt.By zs) (hI : Rd w.heap.size w sv zs) (x : Int) (hx : 0 ≤ x ∧ x ≤ 65535) (y : Int) (hy : 0 ≤ y ∧ y ≤ 65535) (v : Int) (hv : 0 ≤ v ∧ v ≤ 65535) :
    Calls Try.prog 3 #[sv, .agg #[.int .u16 x, .int .u16 y], .int .u16 v] w fun e w' => e = .returned (.bool true) ∧ Below w.heap.size w w' := by
  obtain ⟨a, cap, rfl, hl, hm⟩ := hI.slice
  have hbox : Below w.heap.size w (w.alloc (.cells #[.int .u16 x, .int .u16 y] 24)) := (Below.refl _ w).alloc (Nat.le_refl _) _
  have HF := hide (few_rd _ zs (w.alloc (.cells #[.int .u16 x, .int .u16 y] 24)) ((hI.below hbox).mono (by simp)))
  obtain ⟨hB2, hl3⟩ := take5 zs hB
  generalize zs.take 5000 = ys at *
  generalize zs.length = len at *
  have hbx := cell_new w #[.int .u16 x, .int .u16 y] 24 0
  have hby := cell_new w #[.int .u16 x, .int .u16 y] 24 1
  clear hI hB
  by_cases hev : ys.length % 2 = 0 ∧ 4 ≤ ys.length
  · obtain ⟨h1, h2⟩ := hev
    have t1 : ((ys.length : Int) % 2 != 0) = false := by simp; omega
    have t2 : ¬ (ys.length : Int) < 4 := by omega
    have hk0 := Int.emod_nonneg x (b := (ys.length : Int) / 2) (by omega)
    have hk1 := Int.emod_lt_of_pos x (b := (ys.length : Int) / 2) (by omega)
    have hm0 := Int.emod_nonneg y (b := (ys.length : Int) / 2) (by omega)
    have hm1 := Int.emod_lt_of_pos y (b := (ys.length : Int) / 2) (by omega)
    obtain ⟨r, hr⟩ := Int.eq_ofNat_of_zero_le hk0
    obtain ⟨u, hu⟩ := Int.eq_ofNat_of_zero_le hm0
    rw [hr] at hk1
    rw [hu] at hm1
    clear hk0 hm0
    have hkl : r * 2 + 1 < ys.length := by omega
    have hml : u * 2 + 1 < ys.length := by omega
    by_cases hru : r = u
    · have t3 : ((r : Int) * 2 == (u : Int) * 2) = true := by subst hru; simp
      go_enter Try.func3, Try.ntmps3
      go_wp2_with fail
      refine (unhide HF).mono ?_
      rintro e w1 ⟨a1, cap1, rfl, hI2, rfl⟩
      clear HF hru
      go_wp2_with fail
      go_quiet (fail)
      go_wp2_with fail
      refine (live_any _).mono ?_
      rintro e w3 ⟨rfl, hb3⟩
      go_wp2
      go_ret
      exact ⟨rfl, (below_draw hbox nq).trans (hb3.mono (by simp))⟩
    · have t3 : ((r : Int) * 2 == (u : Int) * 2) = false := by simp; omega
      go_enter Try.func3, Try.ntmps3
      go_wp2_with fail
      refine (unhide HF).mono ?_
      rintro e w1 ⟨a1, cap1, rfl, hI2, rfl⟩
      clear HF
      go_wp2_with fail
      go_quiet (fail)
      go_wp2_with fail
      have hbW := below_draw hbox nq
      have hIW := hI2.drew nq
      have hsz : (w.alloc (.cells #[.int .u16 x, .int .u16 y] 24)).heap.size = ((w.alloc (.cells #[.int .u16 x, .int .u16 y] 24)).drewN nq).heap.size := rfl
      rw [hsz] at hIW
      generalize (w.alloc (.cells #[.int .u16 x, .int .u16 y] 24)).drewN nq = W0 at *
      clear hI2 hbox hbx hby hsz
      rw [show ((r : Int) * 2) = ((r * 2 : Nat) : Int) from by omega]
      refine (put16_any _ ys _ 0 _ (by omega) hIW (by omega)).mono ?_
      rintro e w2 ⟨a2, rfl, hO2, hb2⟩
      rw [putAt2_nat ys (r * 2) 0 hkl] at hO2
      have hbA := hbW.trans (hb2.mono hbW.size)
      have hBz := hB2.put2 (r * 2) (v := 0) (by omega)
      have hlz := Mt.put2_length ys (r * 2) 0
      have hz0 : wat (Mt.put2 ys (r * 2) 0) (r * 2) = 0 := wat_put2 ys (r * 2) 0 hkl (by omega)
      have HP := hide (patched_good (Mt.put2 ys (r * 2) 0) hBz (r * 2) (u * 2) (by omega) (by omega) (by omega) (by omega) (by omega) hz0 v hv _ rfl _ rfl)
      have HG := hide (good_put ys hB2 (r * 2) (by omega) hkl)
      generalize Mt.put2 ys (r * 2) 0 = z at *
      have hcb := Mt.cks_bd z
      clear hz0
      go_wp2_with fail
      refine (sum_any _ z hBz (by omega) _ hO2.rd).mono ?_
      rintro e w3 ⟨rfl, hb3⟩
      have hO3 := hO2.below hb3 (Nat.le_refl _)
      have hbB := hbA.trans (hb3.mono hbA.size)
      go_wp2_with fail
      try rw [show ((r : Int) * 2) = ((r * 2 : Nat) : Int) from by omega]
      refine (put16_any _ z _ (Mt.cks z) _ (by omega) hO3.rd hcb).mono ?_
      rintro e w4 ⟨a4, rfl, hO4, hb4⟩
      rw [putAt2_nat z (r * 2) _ (by omega), hlz] at hO4
      have hbC := hbB.trans (hb4.mono hbB.size)
      have hBg := hBz.put2 (r * 2) hcb
      have hlg := (Mt.put2_length z (r * 2) (Mt.cks z)).trans hlz
      generalize Mt.put2 z (r * 2) (Mt.cks z) = g at *
      have hwb := wat_bd hBg (u * 2)
      go_wp2_with fail
      try rw [show ((u : Int) * 2) = ((u * 2 : Nat) : Int) from by omega]
      refine (get16_rd _ g hBg (u * 2) (by omega) _ hO4.rd).mono ?_
      rintro e w5 ⟨rfl, q5, rfl⟩
      have hO5 := hO4.drew q5
      go_wp2_with fail
      try rw [show ((u : Int) * 2) = ((u * 2 : Nat) : Int) from by omega]
      refine (put16_any _ g _ v _ (by omega) hO5.rd hv).mono ?_
      rintro e w6 ⟨a6, rfl, hO6, hb6⟩
      rw [putAt2_nat g (u * 2) _ (by omega), hlg] at hO6
      have hO6g := hO5.below hb6 (Nat.le_refl _)
      have hbD := (below_draw hbC q5).trans (hb6.mono (below_draw hbC q5).size)
      have hBh := hBg.put2 (u * 2) hv
      have hlh := (Mt.put2_length g (u * 2) v).trans hlg
      generalize Mt.put2 g (u * 2) v = h at *
      generalize wat g (u * 2) = was at *
      go_wp2_with fail
      refine (patch_any (Mt.cks z) was v _ hcb hwb hv).mono ?_
      rintro e w7 ⟨rfl, rfl⟩
      have hfd := Mt.fd_bd (65535 - Mt.cks z + (65535 - was) + v)
      have hfd2 : 0 ≤ 65535 - Mt.fd (65535 - Mt.cks z + (65535 - was) + v) ∧ 65535 - Mt.fd (65535 - Mt.cks z + (65535 - was) + v) ≤ 65535 := by omega
      generalize 65535 - Mt.fd (65535 - Mt.cks z + (65535 - was) + v) = s' at *
      go_wp2_with fail
      try rw [show ((r : Int) * 2) = ((r * 2 : Nat) : Int) from by omega]
      refine (put16_any _ h _ s' _ (by omega) hO6.rd hfd2).mono ?_
      rintro e w8 ⟨a8, rfl, hO8, hb8⟩
      rw [putAt2_nat h (r * 2) _ (by omega), hlh] at hO8
      have hO8g := hO6g.below hb8 (Nat.le_refl _)
      have hbE := hbD.trans (hb8.mono hbD.size)
      have hBc := hBh.put2 (r * 2) hfd2
      have hlc := (Mt.put2_length h (r * 2) s').trans hlh
      generalize Mt.put2 h (r * 2) s' = c at *
      obtain ⟨gc, rfl, hle, _, hcf, _⟩ := hO8.at (by omega)
      have H1 := hide hcf
      clear hcf hle hO2 hO3 hO4 hO5 hO6 hO6g hb2 hb3 hb4 hb6 hb8 hbA hbB hbC hbD
      have HZ := hide (allz_all c)
      go_wp2_with fail
      go_loop [14, 15] (fun t i => ∃ m : Nat, m ≤ ys.length ∧ i = .int .i64 m ∧ t = .bool (allz c m)) (fun _ i => ys.length - (intOf i).toNat)
      case atStart => exact ⟨0, by omega, rfl, by simp [allz]⟩
      case round =>
        obtain ⟨m, hm2, rfl, rfl⟩ := hrel
        by_cases hlt : m < ys.length
        · have cm := (unhide H1 m (by omega)).1
          have HS := hide (allz_succ c m (by omega))
          have hlt' : (m : Int) < ys.length := by omega
          generalize c[m]?.getD 0 = y' at cm HS
          clear hr hu
          cases hz : allz c m
          · rw [hz] at HS
            go_wp2_with fail
            go_round
            case rel => exact ⟨m + 1, by omega, by go_num, by rw [HS.out]; rfl⟩
            case measure => simp [intOf]; omega
          · rw [hz] at HS
            go_wp2_with fail
            go_round
            case rel => exact ⟨m + 1, by omega, by go_num, by rw [HS.out]; rfl⟩
            case measure => simp [intOf]; omega
        · obtain rfl : m = ys.length := by omega
          clear hr hu H1
          have hle1 : c.length ≤ 1099511627776 := by omega
          have hle2 : g.length ≤ 1099511627776 := by omega
          rw [hlc] at HZ
          clear hlc hlh hlg hlz
          go_wp2_with fail
          refine (live_any _).mono ?_
          rintro e w9 ⟨rfl, hb9⟩
          have hO9g := hO8g.below hb9 (Nat.le_refl _)
          have hO9 := hO8.below hb9 (Nat.le_refl _)
          have hbF := hbE.trans (hb9.mono hbE.size)
          clear hO8 hO8g hb9 hbE
          go_wp2_with fail
          refine (good_any _ g hBg hle2 _ hO9g.rd).mono ?_
          rintro e w10 ⟨rfl, hb10⟩
          rw [HG.out]
          have hO10 := hO9.below hb10 (Nat.le_refl _)
          have hbG := hbF.trans (hb10.mono hbF.size)
          cases hz : allz c ys.length
          · have hc0 := hide (HP.out (HZ.out hz))
            clear HP HZ HG
            go_wp2_with fail
            refine (good_any _ c hBc hle1 _ hO10.rd).mono ?_
            rintro e w11 ⟨rfl, hb11⟩
            rw [hc0.out]
            go_wp2
            go_ret
            exact ⟨rfl, hbG.trans (hb11.mono hbG.size)⟩
          · clear HP HZ HG
            go_wp2
            go_ret
            exact ⟨rfl, hbG⟩
  · have ht : ((ys.length : Int) % 2 != 0) = true ∨ (((ys.length : Int) % 2 != 0) = false ∧ (ys.length : Int) < 4) := by
      by_cases h : ys.length % 2 = 0
      · exact .inr ⟨by simp; omega, by omega⟩
      · exact .inl (by simp; omega)
    clear hev
    rcases ht with t1 | ⟨t1, t2⟩
    all_goals
      go_enter Try.func3, Try.ntmps3
      go_wp2_with fail
      refine (unhide HF).mono ?_
      rintro e w1 ⟨a1, cap1, rfl, hI2, rfl⟩
      clear HF
      go_wp2_with fail
      refine (live_any _).mono ?_
      rintro e w3 ⟨rfl, hb3⟩
      go_wp2
      go_ret
      exact ⟨rfl, hbox.trans (hb3.mono (by simp))⟩
end Go.Proofs.Ytiigmhddnaocoab
