/- The walk of ExpectEnds. -/
import Derived.Test.YtbimdhapkbdmjaaEM
namespace Go.Proofs.Ytbimdhapkbdmjaa
open Go.RowKit Go.Shelf
set_option maxRecDepth 100000
set_option linter.unusedVariables false
set_option linter.unusedSimpArgs false

/-- What stays behind a master's end, and a time. -/
def stL (m now : Int) (l : List Ex) : List Ex := l.filter (fun x => !decide (x.ms = m) && decide (now < x.dl))
theorem stL_snoc (m now : Int) (l : List Ex) (y : Ex) : (¬ y.ms = m ∧ now < y.dl → stL m now (l ++ [y]) = stL m now l ++ [y]) ∧ (¬ (¬ y.ms = m ∧ now < y.dl) → stL m now (l ++ [y]) = stL m now l) := by
  unfold stL
  rw [List.filter_append]
  refine ⟨fun h => by simp [h.1, h.2], fun h => ?_⟩
  by_cases e : y.ms = m
  · simp [e]
  · have : ¬ now < y.dl := fun h2 => h ⟨e, h2⟩
    simp [e, this]
theorem ends_eq (m now : Int) (l : List Ex) : ((l.filter (fun x => !decide (x.ms = m))).filter (fun x => !decide (x.dl ≤ now))) = stL m now l := by
  unfold stL
  rw [List.filter_filter]
  refine List.filter_congr (fun x _ => ?_)
  by_cases e : x.ms = m <;> by_cases h : now < x.dl <;> simp [e, h] <;> omega
theorem ends_len (m now : Int) (l : List Ex) : (l.filter (fun x => decide (x.ms = m))).length + ((l.filter (fun x => !decide (x.ms = m))).filter (fun x => decide (x.dl ≤ now))).length + (stL m now l).length = l.length := by
  induction l with
  | nil => rfl
  | cons x l ih =>
    unfold stL at *
    by_cases e : x.ms = m <;> by_cases h : now < x.dl
    · simp [e] at *; omega
    · simp [e] at *; omega
    · have h2 : ¬ x.dl ≤ now := by omega
      simp [e, h, h2] at *; omega
    · have h2 : x.dl ≤ now := by omega
      simp [e, h, h2] at *; omega

set_option maxHeartbeats 8000000 in
theorem walk_ExpectEnds (w : World) (sv : Value) (ds : List Dx) (hI : RdX w.heap.size w sv ds) (hd : ∀ d ∈ ds, wfDx d) (m : Int) (hm : -9223372036854775808 ≤ m ∧ m ≤ 9223372036854775807) (now : Int) (hnow : -9223372036854775808 ≤ now ∧ now ≤ 9223372036854775807) :
    Calls Try.prog 7 #[sv, .int .i64 m, .int .i64 now] w fun e w' => e = .returned (.bool true) ∧ Below w.heap.size w w' := by
  have HPL := hide (play12_any sv ds w w.heap.size (Nat.le_refl _) hI)
  obtain ⟨aa, ca, rfl, ha1, ha2⟩ := hI.slice
  clear hI hd hm hnow
  go_enter Try.func7, Try.ntmps7
  go_wp2_with fail
  refine HPL.out.mono ?_
  rintro e w1 ⟨l1, a, b, l, rfl, hP1, hok⟩
  clear HPL
  go_wp2_with fail
  refine (live12_any w1).mono ?_
  rintro e w2 ⟨rfl, l2⟩
  have L2 : Later w w2 := l1.trans l2
  obtain ⟨va, vb, hA, _, _⟩ := hP1.later l2
  have hl32 := hok.1
  have hw2 : w.heap.size ≤ w2.heap.size := L2.size
  clear l2 hP1 hok
  go_wp2_with fail
  refine (list12_any w.heap.size a va l w2 hA (by omega)).mono ?_
  rintro e w3 ⟨l3, u, rfl, hu⟩
  obtain ⟨su, cu, rfl⟩ := ownE_slice hu
  have L3 : Later w w3 := L2.trans l3
  have hA3 := hA.later l3
  have hw3 : w2.heap.size ≤ w3.heap.size := l3.size
  have HU := hide (ownE_rd hu)
  have hli : (l.length : Int) ≤ 32 := by omega
  clear hu hA
  go_wp2_with fail
  go_loopw [10, 12] (fun v i wr => ∃ k : Nat, k ≤ l.length ∧ i = .int .i64 (k : Int) ∧ wr.ownsRow w3.heap.size 26 9 v (stL m now (l.take k)).length (exs (stL m now (l.take k))) ∧ Later w3 wr) (fun _ i _ => l.length - (intOf i).toNat)
  case atStart => exact ⟨0, by omega, rfl, World.ownsRow_nil _ _ _ _, Later.refl _⟩
  case round =>
    obtain ⟨k, hk, rfl, hOw, lr⟩ := hrel
    obtain ⟨sw, cw, rfl⟩ := ownE_slice hOw
    have hsl : (stL m now (l.take k)).length ≤ 32 := Nat.le_trans (List.length_filter_le _ _) (by simp; omega)
    have hws : w3.heap.size ≤ wr.heap.size := lr.size
    by_cases hkl : k < l.length
    · have hkl' : (k : Int) < l.length := by omega
      obtain ⟨g, off, cp, e, _, _, hgn, hcs⟩ := (HU.out.below lr).cells (by omega)
      simp at e
      obtain ⟨rfl, rfl⟩ := e
      have c0 := hcs k hkl 0 (by omega)
      have c1 := hcs k hkl 1 (by omega)
      have c2 := hcs k hkl 2 (by omega)
      have c3 := hcs k hkl 3 (by omega)
      have c4 := hcs k hkl 4 (by omega)
      have c5 := hcs k hkl 5 (by omega)
      have c6 := hcs k hkl 6 (by omega)
      have c7 := hcs k hkl 7 (by omega)
      have c8 := hcs k hkl 8 (by omega)
      have hst := stL_snoc m now (l.take k) l[k]
      rw [List.take_append_getElem hkl] at hst
      have HST := hide hst
      have HOW := hide hOw
      clear hcs hst hOw
      generalize l[k] = r at *
      simp only [exc, List.getElem?_cons_zero, List.getElem?_cons_succ, Nat.add_zero] at c0 c1 c2 c3 c4 c5 c6 c7 c8
      generalize hFS : stL m now (l.take k) = FS at *
      clear hFS
      by_cases h1 : r.ms = m
      · have HE := hide (HST.out.2 (fun h => h.1 h1))
        clear HST
        go_wp2_with fail
        go_roundw
        case rel => exact ⟨k + 1, by omega, by go_num, by rw [HE.out]; exact HOW.out, lr⟩
        case measure => simp [intOf]; omega
      · by_cases h2 : now < r.dl
        · have HE := hide (HST.out.1 ⟨h1, h2⟩)
          obtain ⟨g2, cp2, W3, hrun, hrow, hbt, hob, _⟩ := app1E wr 42 w3.heap.size (.slice sw FS.length cw) FS r HOW.out hws (by omega)
          have HRUN := hide hrun
          have HN : Hid (Later w3 W3) := Below.trans lr (hbt.below hws (fun x hx e => by have := (ownE_lt HOW.out e).1; omega))
          have HRO := hide hrow
          clear HST hrun hrow hbt hob
          go_wp2_with (at_builtin; refine wpList_appv rfl (.tmp 53) (.tmp 58) 42 rfl _ _ rfl rfl _ W3 HRUN.out ?_)
          go_roundw
          case rel => exact ⟨k + 1, by omega, by go_num, by rw [HE.out]; exact HRO.out, HN.out⟩
          case measure => simp [intOf]; omega
        · have HE := hide (HST.out.2 (fun h => h2 h.2))
          clear HST
          go_wp2_with fail
          go_roundw
          case rel => exact ⟨k + 1, by omega, by go_num, by rw [HE.out]; exact HOW.out, lr⟩
          case measure => simp [intOf]; omega
    · obtain rfl : k = l.length := by omega
      simp only [List.take_length] at *
      have HOW := hide hOw
      have hA4 := hA3.later lr
      have HLEN := hide (ends_len m now l)
      have HEQ := hide (ends_eq m now l)
      clear hOw
      generalize hS : stL m now l = S at *
      clear hS
      go_wp2_with fail
      refine (gone12_any w.heap.size a va l m wr hA4 (by omega) (by omega)).mono ?_
      rintro e w5 ⟨x5, rfl, v5, hA5, hx5, hb5, hv5⟩
      have hs5 := hb5.size
      obtain ⟨sx, cx, rfl⟩ := ownE_slice hx5
      have hab : a < wr.heap.size := hA4.blt
      have hab3 : a < w3.heap.size := hA3.blt
      have HO5 := hide (ownE_but HOW.out hb5 (fun g hg e => by have := (ownE_lt HOW.out hg).1; omega))
      generalize hGM : l.filter (fun x => decide (x.ms = m)) = GM at *
      generalize hGN : l.filter (fun x => !decide (x.ms = m)) = GN at *
      have HGM : Hid (∀ x ∈ GM, x.ms = m) := fun x hx => by rw [← hGM] at hx; simpa using (List.mem_filter.1 hx).2
      have HGN : Hid (∀ x ∈ GN, ¬ x.ms = m) := fun x hx => by rw [← hGN] at hx; simpa using (List.mem_filter.1 hx).2
      have hGMl : GM.length ≤ 32 := by rw [← hGM]; exact Nat.le_trans (List.length_filter_le _ _) hl32
      have hGNl : GN.length ≤ 32 := by rw [← hGN]; exact Nat.le_trans (List.length_filter_le _ _) hl32
      clear hGM hGN
      go_wp2_with fail
      refine (due12_any w.heap.size a v5 GN now w5 hA5 (by omega) (by omega)).mono ?_
      rintro e w6 ⟨y6, rfl, v6, hA6, hy6, hb6, hv6⟩
      have hs6 := hb6.size
      obtain ⟨sy, cy, rfl⟩ := ownE_slice hy6
      have HO6 := hide (ownE_but HO5.out hb6 (fun g hg e => by have := (ownE_lt HO5.out hg).1; omega))
      have HX6 := hide (ownE_rd (ownE_but hx5 hb6 (fun g hg e => by have := (ownE_lt hx5 hg).1; omega)))
      rw [HEQ.out] at hA6
      generalize hGD : GN.filter (fun x => decide (x.dl ≤ now)) = GD at *
      have HGD : Hid (∀ x ∈ GD, x.dl ≤ now ∧ ¬ x.ms = m) := fun x hx => by rw [← hGD] at hx; have := List.mem_filter.1 hx; exact ⟨by simpa using this.2, HGN.out x this.1⟩
      have hGDl : GD.length ≤ 32 := by rw [← hGD]; exact Nat.le_trans (List.length_filter_le _ _) hGNl
      have HY6 := hide (ownE_rd hy6)
      have hSl : S.length ≤ 32 := by have := HLEN.out; omega
      clear hGD hx5 hy6
      have L6 : Below w.heap.size w w6 := Below.trans L3 ((lr.mono (by omega)).trans ((hb5.below (by omega) (fun k hk e => by have := hA4.1; omega)).trans (hb6.below (by omega) (fun k hk e => by have := hA4.1; omega))))
      have i1 : (GM.length : Int) ≤ 32 := by omega
      have i2 : (GD.length : Int) ≤ 32 := by omega
      have i3 : (S.length : Int) ≤ 32 := by omega
      go_wp2_with fail
      go_loopw [15] (fun i wq => ∃ k : Nat, k ≤ GM.length ∧ i = .int .i64 (k : Int) ∧ wq = w6) (fun i _ => GM.length - (intOf i).toNat)
      case atStart => exact ⟨0, by omega, rfl, rfl⟩
      case round =>
        obtain ⟨k, hk, rfl, rfl⟩ := hrel
        by_cases hkl : k < GM.length
        · have hkl' : (k : Int) < GM.length := by omega
          obtain ⟨g, off, cp, e, _, _, hgn, hcs⟩ := HX6.out.cells (by omega)
          simp at e
          obtain ⟨rfl, rfl⟩ := e
          have c7 := hcs k hkl 7 (by omega)
          have hkm := HGM.out GM[k] (List.getElem_mem hkl)
          simp only [exc, List.getElem?_cons_zero, List.getElem?_cons_succ, Nat.add_zero] at c7
          rw [hkm] at c7
          clear hcs hkm
          go_wp2_with fail
          go_roundw
          case rel => exact ⟨k + 1, by omega, by go_num, by first | trivial | rfl⟩
          case measure => simp [intOf]; omega
        · have hkl' : ¬ (k : Int) < GM.length := by omega
          go_wp2_with fail
          go_loopw [16] (fun i wq => ∃ k : Nat, k ≤ GD.length ∧ i = .int .i64 (k : Int) ∧ wq = wr) (fun i _ => GD.length - (intOf i).toNat)
          case atStart => exact ⟨0, by omega, rfl, rfl⟩
          case round =>
            obtain ⟨k2, hk2, rfl, rfl⟩ := hrel
            by_cases hkl2 : k2 < GD.length
            · have hkl2' : (k2 : Int) < GD.length := by omega
              obtain ⟨g, off, cp, e, _, _, hgn, hcs⟩ := HY6.out.cells (by omega)
              simp at e
              obtain ⟨rfl, rfl⟩ := e
              have c7 := hcs k2 hkl2 7 (by omega)
              have c8 := hcs k2 hkl2 8 (by omega)
              have hkm := HGD.out GD[k2] (List.getElem_mem hkl2)
              simp only [exc, List.getElem?_cons_zero, List.getElem?_cons_succ, Nat.add_zero] at c7 c8
              generalize GD[k2].ms = gm at *
              generalize GD[k2].dl = gd at *
              obtain ⟨hk3, hk4⟩ := hkm
              have hk3' : ¬ now < gd := by omega
              clear hcs
              go_wp2_with fail
              go_roundw
              case rel => exact ⟨k2 + 1, by omega, by go_num, by first | trivial | rfl⟩
              case measure => simp [intOf]; omega
            · have hkl2' : ¬ (k2 : Int) < GD.length := by omega
              have hsum : (GM.length : Int) + (GD.length : Int) + (S.length : Int) = (l.length : Int) := by have := HLEN.out; omega
              have HLI := hide (list12_any w.heap.size a v6 S wr hA6 (by omega))
              go_wp2_with fail
              refine HLI.out.mono ?_
              rintro e w8 ⟨l8, u8, rfl, hu8⟩
              obtain ⟨s8, c8, rfl⟩ := ownE_slice hu8
              have HSM := hide (same12_eq w8.heap.size _ _ S w8 (ownE_rd hu8) (ownE_rd (ownE_later HO6.out l8)) (Nat.le_refl _) (by omega))
              clear hu8
              go_wp2_with fail
              refine HSM.out.mono ?_
              rintro e w9 ⟨rfl, l9⟩
              go_wp2_with fail
              go_ret
              exact ⟨by first | rfl | (simp; done) | (simp; omega), L6.trans ((Later.trans l8 l9).mono L6.size)⟩
end Go.Proofs.Ytbimdhapkbdmjaa
