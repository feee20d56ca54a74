/- The walk of PoolOnce. -/
import Derived.Test.YtfompbpllndmfaaDoorPV
import Derived.Test.YtfompbpllndmfaaDoorOpD
namespace Go.Proofs.YtfompbpllndmfaaDoor
open Go.RowKit Go.Shelf
set_option maxRecDepth 100000
set_option linter.unusedVariables false
set_option linter.unusedSimpArgs false

/-- What is free, and what was given out. -/
def OnR (lw hg : Nat) (g : List Nat) (ws : Nat → Nat) : Prop := (∀ m, m < 65536 → fr ws m = (decide (lw ≤ m ∧ m ≤ hg) && !decide (m ∈ g))) ∧ cnt ws 1024 + g.length = hg - lw + 1
theorem OnR.start {lw hg : Nat} (h2 : lw ≤ hg) (h3 : hg < 65536) : OnR lw hg [] (wsOf (nums lw hg)) := by
  have hf : ∀ m, fr (wsOf (nums lw hg)) m = decide (lw ≤ m ∧ m ≤ hg) := fun m => by rw [fr_wsOf, decide_eq_decide, mem_nums h2]
  exact ⟨fun m _ => by rw [hf]; simp, by rw [cnt_interval h2 h3 hf]; rfl⟩
theorem OnR.at {lw hg n : Nat} {g : List Nat} {ws : Nat → Nat} (h : OnR lw hg g ws) (hn : n < 65536) (hf : fr ws n = true) : lw ≤ n ∧ n ≤ hg ∧ n ∉ g := by
  rw [h.1 n hn] at hf
  simp at hf
  exact ⟨hf.1.1, hf.1.2, hf.2⟩
theorem OnR.add {lw hg n : Nat} {g : List Nat} {ws : Nat → Nat} (h : OnR lw hg g ws) (hn : n < 65536) (hf : fr ws n = true) : OnR lw hg (g ++ [n]) (wsR ws n) := by
  refine ⟨fun m hm => ?_, ?_⟩
  · rw [fr_wsR, h.1 m hm, Bool.eq_iff_iff]
    simp
    constructor
    · rintro ⟨⟨h1, h2⟩, h3⟩; exact ⟨h1, h2, h3⟩
    · rintro ⟨h1, h2, h3⟩; exact ⟨⟨h1, h2⟩, h3⟩
  · have h1 := cnt_remove ws n hn hf
    have h2 := h.2
    rw [List.length_append, List.length_singleton]
    omega
theorem OnR.none {lw hg : Nat} {g : List Nat} {ws : Nat → Nat} (h : OnR lw hg g ws) (hno : ∀ m, m < 65536 → fr ws m = false) : cnt ws 1024 = 0 ∧ g.length = hg - lw + 1 := by
  have h0 : cnt ws 1024 = 0 := by rw [cnt_els, els_none ws hno]; rfl
  exact ⟨h0, by have := h.2; omega⟩
theorem OnR.used {lw hg : Nat} {g : List Nat} {ws : Nat → Nat} (h : OnR lw hg g ws) (h2 : lw ≤ hg) (h3 : hg < 65536) : (usd lw hg ws).length = g.length := by
  have := usd_len h2 h3 (ws := ws) (fun m hm hf => by have := h.at hm hf; omega)
  have := h.2
  omega

set_option maxHeartbeats 8000000 in
theorem walk_PoolOnce (w : World) (hz : Dz w) (low : Int) (hl : 0 ≤ low ∧ low ≤ 65535) (size : Int) (hs : 0 ≤ size ∧ size ≤ 65535) (sv : Value) (ns : List Int) (hU : U16s ns) (hI : RdH w.heap.size w sv ns) :
    Calls Tryd.prog 3 #[.int .u16 low, .int .u16 size, sv] w fun e w' => e = .returned (.bool true) ∧ Below w.heap.size w w' := by
  obtain ⟨lo, rfl⟩ : ∃ lo : Nat, low = (lo : Int) := ⟨low.toNat, by omega⟩
  obtain ⟨sz, rfl⟩ : ∃ sz : Nat, size = (sz : Int) := ⟨size.toNat, by omega⟩
  obtain ⟨a, cap, rfl, hn1, hn2⟩ := hI.slice
  have HI := hide hI
  have HU := hide hU
  have hzp := hz.pos
  clear hI hU
  go_enter Tryd.func3, Tryd.ntmps3
  go_wp2_with fail
  refine (play_none lo sz (by omega) (by omega) w).mono ?_
  rintro e w1 ⟨l1, lw, hg, rb, h1, h2, h3, rfl, hT1⟩
  have hO := OnR.start h2 h3
  generalize wsOf (nums lw hg) = ws0 at *
  generalize hB : w.heap.size = B at *
  have lb1 : Below B w w1 := by rw [← hB]; exact l1
  obtain ⟨al, hal⟩ : ∃ al, al = hg - lw + 1 := ⟨_, rfl⟩
  have HAL := hide hal
  have hal6 : (al : Int) ≤ 65536 := by omega
  have HFR := hide (free8_any B B (lw : Int) (hg : Int) ws0 al (by have := hO.2; simp at this; omega) w1 hT1)
  have H123 := hide (And.intro h1 (And.intro h2 h3))
  clear l1 hal h1 h2 h3 hl hs
  go_wp2_with fail
  refine HFR.out.mono ?_
  rintro e w2 ⟨rfl, rfl⟩
  clear HFR
  go_wp2_with fail
  go_loopw [11, 12] (fun got i wr => ∃ (p : Nat) (g : List Nat) (ws : Nat → Nat), p ≤ ns.length ∧ p ≤ 100 ∧ g.length ≤ p ∧ i = .int .i64 (p : Int) ∧ wr.ownsRow (B + 1) 22 1 got g.length (u16s g) ∧ PB B wr B (lw : Int) (hg : Int) ws ∧ OnR lw hg g ws ∧ Below B w wr) (fun _ i _ => 100 - (intOf i).toNat)
  case atStart => exact ⟨0, [], ws0, by omega, by omega, Nat.le_refl _, rfl, World.ownsRow_nil _ _ _ _, hT1, hO, lb1⟩
  case round =>
    obtain ⟨p, g, ws, hp1, hp2, hgp, rfl, hOw, hT, hR, hbw⟩ := hrel
    have hzr := hz.below hbw hzp
    have hbs := hbw.size
    have hBw : B < wr.heap.size := hT.lt
    obtain ⟨sa, cp, rfl⟩ := ownsN_slice hOw
    by_cases hgo : p < ns.length ∧ p < 100
    · obtain ⟨g1, g2⟩ := hgo
      have g1' : (p : Int) < ns.length := by omega
      have g2' : (p : Int) < 100 := by omega
      obtain ⟨b1, o1, c1, e, _, _, hb1, hcs1⟩ := (HI.out.below hbw).cells (by omega)
      simp at e
      obtain ⟨rfl, rfl⟩ := e
      have d1 := hcs1 p g1
      have hx : 0 ≤ ns[p]?.getD 0 ∧ ns[p]?.getD 0 ≤ 65535 := by rw [List.getElem?_eq_getElem g1]; exact HU.out _ (List.getElem_mem g1)
      clear hcs1
      generalize ns[p]?.getD 0 = x at *
      have HTK := hide (take_two B B lw hg ws x.toNat wr hT hzr (by omega))
      rw [show ((x.toNat : Nat) : Int) = x from by omega] at HTK
      go_wp2_with fail
      refine HTK.out.mono ?_
      rintro e w3 (⟨n, hn, hfn, rfl, hT3, hb3⟩ | ⟨hno, rfl, hT3, hb3⟩)
      · have hbw3 : Below B w w3 := hbw.trans (hb3.below (by omega) (fun k hk e => by omega))
        have hOw3 := ownsN_but hOw hb3 (fun k hk e => by omega)
        have hR3 := hR.add hn hfn
        obtain ⟨q1, q2, q3⟩ := hR.at hn hfn
        have hbs3 := hbw3.size
        have hB3 : B < w3.heap.size := hT3.lt
        have hn' : (n : Int) ≤ 65535 := by omega
        have hgl : (g.length : Int) ≤ 100 := by omega
        have Q3 := hide q3
        have HHS := hide (hasP_any B B lw hg (wsR ws n) n w3 hT3 hn)
        have hhs : hsP lw hg (wsR ws n) n = true := by unfold hsP; rw [fr_wsR]; simp [q1, q2]
        rw [hhs] at HHS
        have HR3 := hide hR3
        have HT3 := hide hT3
        have HO3 := hide hOw3
        clear HTK d1 hR3 hT3 hOw3 q3 hhs hfn hb3 hOw hT hR hzr hb1
        go_wp2_with fail
        go_loopw [15] (fun k wx => ∃ q : Nat, q ≤ g.length ∧ k = .int .i64 (q : Int) ∧ wx = w3) (fun k _ => g.length - (intOf k).toNat)
        case atStart => exact ⟨0, by omega, rfl, rfl⟩
        case round =>
          obtain ⟨q, hq, rfl, rfl⟩ := hrel
          by_cases hql : q < g.length
          · have hql' : (q : Int) < g.length := by omega
            obtain ⟨gb, rfl, hc1, hc2, hcs⟩ := ownsN_cell HO3.out (by omega)
            have d1 := hcs q hql
            have hne : ¬ ((g[q]?.getD 0 : Nat) : Int) = (n : Int) := fun e => Q3.out (by
              have : g[q]?.getD 0 = n := by omega
              rw [List.getElem?_eq_getElem hql] at this
              simp at this
              rw [← this]
              exact List.getElem_mem hql)
            clear hcs
            generalize ((g[q]?.getD 0 : Nat) : Int) = y at *
            go_wp2_with fail
            go_roundw
            case rel => exact ⟨q + 1, by omega, by go_num, by first | trivial | rfl⟩
            case measure => simp [intOf]; omega
          · obtain rfl : q = g.length := by omega
            go_wp2_with fail
            refine HHS.out.mono ?_
            rintro e w4 ⟨rfl, l4⟩
            have hOw4 := hide (ownsN_ct HO3.out (CT.of l4))
            have hbw4 : Below B w w4 := hbw3.trans (l4.mono (by omega))
            have hs4 : B + 1 ≤ w4.heap.size := by have := Below.size l4; omega
            have HT4 := hide (HT3.out.later l4)
            clear HHS HT3
            go_wp2_with (at_builtin; refine wpList_app16 rfl (.tmp 71) (.tmp 73) rfl (B + 1) _ g n rfl rfl hOw4.out hs4 (by omega) ?_; intro g2 cp2 W5 hrow5 hb5)
            go_roundw
            case rel => exact ⟨p + 1, g ++ [n], _, by omega, by omega, by simp; omega, by go_num, by simpa using hrow5, ⟨HT4.out.1, HT4.out.2.1, (hb5.block B (by omega)).trans HT4.out.2.2⟩, HR3.out, hbw4.trans (Below.mono hb5 (by omega))⟩
            case measure => simp [intOf]; omega
      · obtain ⟨hc0, hgl⟩ := hR.none hno
        have hbw3 : Below B w w3 := hbw.trans (hb3.below (by omega) (fun k hk e => by omega))
        have hOw3 := ownsN_but hOw hb3 (fun k hk e => by omega)
        obtain rfl : al = g.length := by rw [HAL.out, hgl]
        have HFR := hide (free8_any B B (lw : Int) (hg : Int) ws 0 hc0 w3 hT3)
        have HR := hide hR
        have HT3 := hide hT3
        have HO3 := hide hOw3
        clear HTK d1 hR hT3 hOw3 hc0 hgl hno hb3 hOw hT hzr hb1
        go_wp2_with fail
        refine HFR.out.mono ?_
        rintro e w4 ⟨rfl, rfl⟩
        clear HFR
        go_wp2_with fail
        go_roundw
        case rel => exact ⟨p + 1, g, ws, by omega, by omega, by omega, by go_num, HO3.out, HT3.out, HR.out, hbw3⟩
        case measure => simp [intOf]; omega
    · have hul := hR.used H123.out.2.1 H123.out.2.2
      obtain ⟨c0, hc0⟩ : ∃ c0, cnt ws 1024 = c0 := ⟨_, rfl⟩
      have hal2 : (al : Int) = (c0 : Int) + (g.length : Int) := by have := hR.2; have := HAL.out; omega
      have HFR := hide (fun W (h : Later wr W) => free8_any B B (lw : Int) (hg : Int) ws c0 hc0 W (hT.later h))
      have HUS := hide (fun W (h : Later wr W) => used_any B B lw hg ws H123.out.2.1 H123.out.2.2 W (hT.later h))
      rw [hul] at HUS
      have hgl : (g.length : Int) ≤ 100 := by omega
      clear hul hc0 hR hT hOw
      have hend : ¬ p < ns.length ∨ (p < ns.length ∧ ¬ p < 100) := by omega
      rcases hend with h | ⟨h, h'⟩
      case' inl =>
        have h1' : ¬ (p : Int) < ns.length := by omega
        go_upto_region 19 with fail
        clear h1' h hgo
      case' inr =>
        have h1' : (p : Int) < ns.length := by omega
        have h2' : ¬ (p : Int) < 100 := by omega
        go_upto_region 19 with fail
        clear h1' h2' h h' hgo
      all_goals
        go_wp2_with fail
        refine (live8_any wr hzr).mono ?_
        rintro e w4 ⟨rfl, l4⟩
        have L4 : Later wr w4 := l4
        go_wp2_with fail
        refine (HFR.out w4 L4).mono ?_
        rintro e w5 ⟨rfl, rfl⟩
        go_wp2_with fail
        refine (HUS.out w5 L4).mono ?_
        rintro e w6 ⟨l6, v6, rfl, hOw6⟩
        obtain ⟨sa6, cp6, rfl⟩ := ownsN_slice hOw6
        have L6 := L4.trans l6
        have hfin : Below B w w6 := hbw.trans (L6.mono (by omega))
        clear hOw6
        go_wp2_with fail
        go_ret
        exact ⟨by first | rfl | simp, by rw [hB]; exact hfin⟩
end Go.Proofs.YtfompbpllndmfaaDoor
