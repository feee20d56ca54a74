/- The law's live, play, same of books; the walks of ExpectPlays, ExpectForks. -/
import Derived.Test.YtbimdhapkbdmjaaEL
namespace Go.Proofs.Ytbimdhapkbdmjaa
open Go.RowKit Go.Shelf
set_option maxRecDepth 100000
set_option linter.unusedVariables false
set_option linter.unusedSimpArgs false

theorem BL.base {t : TypeId} {base base' : Nat} {W : World} {b : Nat} {v : Value} {l : List Ex} (h : BL t base W b v l) (hb : base' ≤ base) : BL t base' W b v l := ⟨Nat.le_trans hb h.1, h.2.1, BL.mono' (t := 0) (b := 0) h.2.2 hb⟩
theorem BL.below {t : TypeId} {base : Nat} {A B : World} {b : Nat} {v : Value} {l : List Ex} (h : BL t base A b v l) (k : Below A.heap.size A B) : BL t base B b v l := h.later k

def ex0 : Ex := ⟨6, 0, 7, 0, 9, 5, 1, 0, 10⟩
theorem ad0 : adE [] ex0 = 0 := by decide +kernel
theorem fd0 : fnd (pkX ⟨6, 3, 7, 0, 9⟩ 9) [ex0] = ex0 := by decide +kernel
theorem fb0 : fdb (pkX ⟨6, 3, 7, 0, 9⟩ 9) [ex0] = true := by decide +kernel
theorem mt0 : mtL (pkX ⟨6, 3, 7, 0, 9⟩ 9) [ex0] = [] := by decide +kernel

set_option maxHeartbeats 4000000 in
theorem live12_any (w : World) : Calls Try.prog 10 #[] w fun e w' => e = .returned (.bool true) ∧ Later w w' := by
  go_enter Try.func10, Try.ntmps10
  go_wp2_with fail
  refine (new12_any w).mono ?_
  rintro e w1 ⟨rfl, l1, hT1⟩
  have HAD := hide (add12_any w.heap.size w.heap.size _ [] ex0 w1 hT1 (by simp) l1.size)
  rw [ad0, adL_yes ad0] at HAD
  have HMT := hide (fun W v h hb => match12_any w.heap.size w.heap.size v [ex0] ⟨6, 3, 7, 0, 9⟩ 9 W h hb (by simp))
  rw [fd0, fb0, mt0] at HMT
  unfold exc tuc ex0 at *
  simp only at *
  go_wp2_with fail
  refine HAD.out.mono ?_
  rintro e w2 ⟨rfl, v2, hT2, hb2, _⟩
  have hs1 : w.heap.size ≤ w1.heap.size := l1.size
  have hb2' := hb2.below hs1 (fun k hk e => by rcases e with e | e; (· omega); (· cases e))
  have L2 : Below w.heap.size w w2 := Below.trans l1 hb2'
  go_wp2_with fail
  refine (HMT.out w2 v2 hT2 L2.size).mono ?_
  rintro e w3 ⟨rfl, v3, hT3, hb3, _⟩
  have hb3' := hb3.below L2.size (fun k hk e => by rcases e with e | e; (· omega); (· have := (hT2.lt e).1; omega))
  have L3 : Below w.heap.size w w3 := L2.trans hb3'
  have la : Later w3 (w3.alloc (.cells #[.int .u8 6, .int .u32 0, .int .u32 7, .int .u16 0, .int .u16 9, .int .u32 5, .int .u16 1, .int .i64 0, .int .i64 10] 26)) := (Below.refl _ _).alloc (Nat.le_refl _) _
  have c3 := heap_alloc_new w3 (.cells #[.int .u8 6, .int .u32 0, .int .u32 7, .int .u16 0, .int .u16 9, .int .u32 5, .int .u16 1, .int .i64 0, .int .i64 10] 26)
  go_upto_region 4 with fail
  generalize w3.alloc _ = w4 at *
  have k3 := block_cell c3
  have hT4 := hT3.later la
  have L4 : Below w.heap.size w w4 := L3.trans (la.mono L3.size)
  clear HMT HAD
  go_wp2_with fail
  refine (list12_any w.heap.size w.heap.size v3 [] w4 hT4 (by simp)).mono ?_
  rintro e w5 ⟨l5, u, rfl, hu⟩
  obtain ⟨s, c, rfl⟩ := ownE_slice hu
  have L5 : Below w.heap.size w w5 := L4.trans (l5.mono L4.size)
  go_wp2_with fail
  go_ret
  exact ⟨by first | rfl | simp, L5⟩

set_option maxHeartbeats 4000000 in
theorem play12_any (sv : Value) (ds : List Dx) (w : World) (n₀ : Nat) (hn : n₀ ≤ w.heap.size) (hI : RdX n₀ w sv ds) :
    Calls Try.prog 9 #[sv] w fun e w' => Later w w' ∧ ∃ a b l, e = .returned (.tuple #[.pointer (some ⟨a, 0, none⟩), .pointer (some ⟨b, 0, none⟩), .bool true]) ∧ PE w.heap.size w' a b l ∧ okX l := by
  obtain ⟨aa, ca, rfl, ha1, ha2⟩ := hI.slice
  have HI := hide hI
  clear hI
  go_enter Try.func9, Try.ntmps9
  go_wp2_with fail
  refine (new12_any w).mono ?_
  rintro e w1 ⟨rfl, l1, hT1⟩
  have hs1 : w.heap.size ≤ w1.heap.size := l1.size
  go_wp2_with fail
  refine (rnew12_any w1).mono ?_
  rintro e w2 ⟨rfl, l2, hR2⟩
  have hPE : PE w.heap.size w2 w.heap.size w1.heap.size [] := ⟨_, _, hT1.later l2, hR2.base hs1, fun g h => by cases h⟩
  have L2 : Below w.heap.size w w2 := Later.trans l1 l2
  clear hT1 hR2 l1 l2
  generalize w1.heap.size = rb at *
  generalize hB : w.heap.size = b at *
  have HB := hide hB
  clear hB
  go_wp2_with fail
  go_loopw [7] (fun i wr => ∃ (k : Nat) (l : List Ex), k ≤ ds.length ∧ k ≤ 100 ∧ i = .int .i64 (k : Int) ∧ PE b wr b rb l ∧ okX l ∧ Below b w wr) (fun i _ => 100 - (intOf i).toNat)
  case atStart => exact ⟨0, [], by omega, by omega, rfl, hPE, okX_nil, L2⟩
  case round =>
    obtain ⟨k, l, hk1, hk2, rfl, hP, hok, hbw⟩ := hrel
    have hend : ∀ (h : ¬ (k < ds.length ∧ k < 100)), ¬ k < ds.length ∨ (k < ds.length ∧ ¬ k < 100) := fun h => by omega
    have hsz := hbw.size
    by_cases hgo : k < ds.length ∧ k < 100
    · obtain ⟨g1, g2⟩ := hgo
      have g1' : (k : Int) < ds.length := by omega
      have g2' : (k : Int) < 100 := by omega
      obtain ⟨bb, off, cp, e, _, _, hbb, hcs⟩ := (HI.out.below (hbw.mono hn)).cells (by omega)
      simp at e
      obtain ⟨rfl, rfl⟩ := e
      have d0 := hcs k g1 0 (by omega)
      have d1 := hcs k g1 1 (by omega)
      have d2 := hcs k g1 2 (by omega)
      have d3 := hcs k g1 3 (by omega)
      have d4 := hcs k g1 4 (by omega)
      have d5 := hcs k g1 5 (by omega)
      have d6 := hcs k g1 6 (by omega)
      have d7 := hcs k g1 7 (by omega)
      have d8 := hcs k g1 8 (by omega)
      have d9 := hcs k g1 9 (by omega)
      have d10 := hcs k g1 10 (by omega)
      have d11 := hcs k g1 11 (by omega)
      have d12 := hcs k g1 12 (by omega)
      have d13 := hcs k g1 13 (by omega)
      have d14 := hcs k g1 14 (by omega)
      have d15 := hcs k g1 15 (by omega)
      clear hcs hend
      generalize ds[k] = r at *
      simp only [dxc, List.getElem?_cons_zero, List.getElem?_cons_succ, Nat.add_zero] at d0 d1 d2 d3 d4 d5 d6 d7 d8 d9 d10 d11 d12 d13 d14 d15
      have HDO := hide (do12_any b b rb l r wr hP hok (by have := HB.out; omega))
      unfold dxc at HDO
      go_wp2_with fail
      refine HDO.out.mono ?_
      rintro e w3 ⟨rfl, hP3, hb3⟩
      have hbw3 : Below b w w3 := hbw.trans hb3
      clear d0 d1 d2 d3 d4 d5 d6 d7 d8 d9 d10 d11 d12 d13 d14 d15 HDO
      go_wp2_with fail
      go_roundw
      case rel => exact ⟨k + 1, _, by omega, by omega, by go_num, hP3, okX_do hok, hbw3⟩
      case measure => simp [intOf]; omega
    · rcases hend hgo with h | ⟨h, h'⟩
      case' inl =>
        have h1' : ¬ (k : Int) < ds.length := by omega
        go_wp2_with fail
      case' inr =>
        have h1' : (k : Int) < ds.length := by omega
        have h2' : ¬ (k : Int) < 100 := by omega
        go_wp2_with fail
      all_goals
        refine bodyPost_ret (v := .tuple #[.pointer (some ⟨b, 0, none⟩), .pointer (some ⟨rb, 0, none⟩), .bool true]) (by simp [results, Try.results9, go_sem]) rfl ?_
        exact ⟨by rw [← HB.out] at hbw; exact hbw, b, rb, rfl, l, by rw [HB.out]; exact hP, hok⟩

set_option maxHeartbeats 4000000 in
theorem same12_any (base a b : Nat) (l : List Ex) (t : Tu) (now : Int) (w : World) (hP : PE base w a b l) (hl : l.length ≤ 1000) :
    Calls Try.prog 11 #[.pointer (some ⟨a, 0, none⟩), .pointer (some ⟨b, 0, none⟩), .agg (tuc t).toArray, .int .i64 now] w fun e w' => e = .returned (.bool true) ∧ Later w w' := by
  obtain ⟨va, vb, hA, hB, _⟩ := hP
  have HP := hide (fun W (lw : Later w W) => peek12_any base a va l t now W (hA.later lw) hl)
  have HRP := hide (fun W (lw : Later w W) => rpeek12_any base b vb l t now W (hB.later lw) hl)
  have HL := hide (fun W (lw : Later w W) => list12_any base a va l W (hA.later lw) hl)
  have HRL := hide (fun W (lw : Later w W) => rlist12_any base b vb l W (hB.later lw) hl)
  have lb0 : Later w (w.alloc (.cells (tuc t).toArray 28)) := (Below.refl _ _).alloc (Nat.le_refl _) _
  have c0 := heap_alloc_new w (.cells (tuc t).toArray 28)
  clear hA hB
  unfold tuc at *
  generalize hfr : fnd (pkX t now) l = r at *
  generalize hfq : fdb (pkX t now) l = q at *
  clear hfr hfq
  have k0 := block_cell c0
  go_enter Try.func11, Try.ntmps11
  go_wp2_with fail
  generalize w.alloc _ = w0 at *
  refine (HP.out w0 lb0).mono ?_
  rintro e w1 ⟨rfl, l1⟩
  have L1 := lb0.trans l1
  have c1 := later_keep l1 c0
  unfold exc
  have la : Later w1 (w1.alloc (.cells #[.int .u8 r.pr, .int .u32 r.src, .int .u32 r.dst, .int .u16 r.sp, .int .u16 r.dp, .int .u32 r.host, .int .u16 r.hp, .int .i64 r.ms, .int .i64 r.dl] 26)) := (Below.refl _ _).alloc (Nat.le_refl _) _
  have e1 := heap_alloc_new w1 (.cells #[.int .u8 r.pr, .int .u32 r.src, .int .u32 r.dst, .int .u16 r.sp, .int .u16 r.dp, .int .u32 r.host, .int .u16 r.hp, .int .i64 r.ms, .int .i64 r.dl] 26)
  go_upto_region 2 with fail
  clear k0
  generalize w1.alloc _ = w2 at *
  have L2 := L1.trans la
  have k2 := block_cell (later_keep la c1)
  go_wp2_with fail
  refine (HRP.out w2 L2).mono ?_
  rintro e w3 ⟨rfl, l3⟩
  have L3 := L2.trans l3
  have e3 := later_keep l3 e1
  clear k2 HP HRP
  unfold exc
  have la3 : Later w3 (w3.alloc (.cells #[.int .u8 r.pr, .int .u32 r.src, .int .u32 r.dst, .int .u16 r.sp, .int .u16 r.dp, .int .u32 r.host, .int .u16 r.hp, .int .i64 r.ms, .int .i64 r.dl] 26)) := (Below.refl _ _).alloc (Nat.le_refl _) _
  have f3 := heap_alloc_new w3 (.cells #[.int .u8 r.pr, .int .u32 r.src, .int .u32 r.dst, .int .u16 r.sp, .int .u16 r.dp, .int .u32 r.host, .int .u16 r.hp, .int .i64 r.ms, .int .i64 r.dl] 26)
  go_upto_region 3 with fail
  generalize w3.alloc _ = w4 at *
  have L4 := L3.trans la3
  have j1 := block_cell (later_keep la3 e3)
  have j2 := block_cell f3
  go_wp2_with fail
  refine (HL.out w4 L4).mono ?_
  rintro e w5 ⟨l5, u1, rfl, hu1⟩
  have L5 := L4.trans l5
  obtain ⟨s1, c1, rfl⟩ := ownE_slice hu1
  clear j1 j2
  go_wp2_with fail
  refine (HRL.out w5 L5).mono ?_
  rintro e w6 ⟨l6, u2, rfl, hu2⟩
  have L6 := L5.trans l6
  obtain ⟨s2, c2, rfl⟩ := ownE_slice hu2
  have HS := hide (same12_eq w6.heap.size _ _ l w6 (ownE_rd (ownE_later hu1 l6)) (ownE_rd hu2) (Nat.le_refl _) hl)
  clear hu1 hu2
  go_wp2_with fail
  refine HS.out.mono ?_
  rintro e w7 ⟨rfl, l7⟩
  go_wp2_with fail
  go_ret
  exact ⟨by first | rfl | simp, L6.trans l7⟩

set_option maxHeartbeats 4000000 in
theorem walk_ExpectPlays (w : World) (sv : Value) (ds : List Dx) (hI : RdX w.heap.size w sv ds) (hd : ∀ d ∈ ds, wfDx d) (x : Dx) (hx : wfDx x) :
    Calls Try.prog 3 #[sv, .agg (dxc x).toArray] w fun e w' => e = .returned (.bool true) ∧ Below w.heap.size w w' := by
  obtain ⟨aa, ca, rfl, ha1, ha2⟩ := hI.slice
  have lb0 : Later w (w.alloc (.cells (dxc x).toArray 30)) := (Below.refl _ _).alloc (Nat.le_refl _) _
  have c0 := heap_alloc_new w (.cells (dxc x).toArray 30)
  unfold dxc at lb0 c0 ⊢
  go_enter Try.func3, Try.ntmps3
  go_upto_region 1 with fail
  generalize w.alloc _ = w0 at *
  go_wp2_with fail
  refine (play12_any _ ds w0 w.heap.size lb0.size (hI.below lb0)).mono ?_
  rintro e w1 ⟨l1, a, b, l, rfl, hP, hok⟩
  have L1 := lb0.trans l1
  have c1 := later_keep l1 c0
  clear c0 l1 lb0
  go_wp2_with fail
  refine (live12_any w1).mono ?_
  rintro e w2 ⟨rfl, l2⟩
  have L2 := L1.trans l2
  have c2 := later_keep l2 c1
  have hP2 := hP.later l2
  clear c1 l2 L1 hP
  have k2 := block_cell c2
  have HS := hide (same12_any w0.heap.size a b l x.t x.now w2 hP2 (by have := hok.1; omega))
  unfold tuc at HS
  go_wp2_with fail
  refine HS.out.mono ?_
  rintro e w3 ⟨rfl, l3⟩
  have L3 := L2.trans l3
  go_wp2_with fail
  go_ret
  exact ⟨by simp, L3⟩

set_option maxHeartbeats 8000000 in
theorem walk_ExpectForks (w : World) (sv : Value) (ds : List Dx) (hI : RdX w.heap.size w sv ds) (hd : ∀ d ∈ ds, wfDx d) (sv2 : Value) (ds2 : List Dx) (hI2 : RdX w.heap.size w sv2 ds2) (hd2 : ∀ d ∈ ds2, wfDx d) :
    Calls Try.prog 8 #[sv, sv2] w fun e w' => e = .returned (.bool true) ∧ Below w.heap.size w w' := by
  have HPL := hide (play12_any sv ds w w.heap.size (Nat.le_refl _) hI)
  obtain ⟨aa, ca, rfl, ha1, ha2⟩ := hI.slice
  obtain ⟨aa2, ca2, rfl, ha3, ha4⟩ := hI2.slice
  have HI := hide hI2
  clear hI hd hI2 hd2
  go_enter Try.func8, Try.ntmps8
  go_wp2_with fail
  refine HPL.out.mono ?_
  rintro e w1 ⟨l1, a, b, l, rfl, hP1, hok⟩
  clear HPL
  go_wp2_with fail
  refine (live12_any w1).mono ?_
  rintro e w2 ⟨rfl, l2⟩
  have L2 : Later w w2 := l1.trans l2
  obtain ⟨va, vb, hA, hB, hap⟩ := hP1.later l2
  have hl32 := hok.1
  clear l2 hP1
  go_wp2_with fail
  refine (fork12_any w.heap.size a va l w2 hA (by omega)).mono ?_
  rintro e w3 ⟨l3, fa, vf, rfl, hF3⟩
  have hs3 : w2.heap.size ≤ w3.heap.size := l3.size
  go_wp2_with fail
  refine (rfork12_any w.heap.size b vb l w3 (hB.later l3) (by omega)).mono ?_
  rintro e w4 ⟨l4, fb, vg, rfl, hG4⟩
  have L34 : Later w2 w4 := l3.trans l4
  have L4 : Later w w4 := L2.trans L34
  have hPo : PE w.heap.size w2 a b l := ⟨va, vb, hA, hB, hap⟩
  have hPf : PE w2.heap.size w4 fa fb l := ⟨vf, vg, hF3.later l4, hG4.base hs3, fun g hg e => by
    have := (hG4.lt e).1
    have := (hF3.lt hg).2
    omega⟩
  have hw2 : w.heap.size ≤ w2.heap.size := L2.size
  clear hA hB hap hF3 hG4 l3 l4
  go_wp2_with fail
  go_loopw [10] (fun i wr => ∃ (k : Nat) (l' : List Ex), k ≤ ds2.length ∧ k ≤ 40 ∧ i = .int .i64 (k : Int) ∧ PE w2.heap.size wr fa fb l' ∧ okX l' ∧ Below w2.heap.size w2 wr) (fun i _ => 40 - (intOf i).toNat)
  case atStart => exact ⟨0, l, by omega, by omega, rfl, hPf, hok, L34⟩
  case round =>
    obtain ⟨k, l', hk1, hk2, rfl, hP, hok', hbw⟩ := hrel
    have hend : ∀ (h : ¬ (k < ds2.length ∧ k < 40)), ¬ k < ds2.length ∨ (k < ds2.length ∧ ¬ k < 40) := fun h => by omega
    have hsz := hbw.size
    have hbW : Below w.heap.size w wr := Below.trans L2 (hbw.mono hw2)
    by_cases hgo : k < ds2.length ∧ k < 40
    · obtain ⟨g1, g2⟩ := hgo
      have g1' : (k : Int) < ds2.length := by omega
      have g2' : (k : Int) < 40 := by omega
      obtain ⟨bb, off, cp, e, _, _, hbb, hcs⟩ := (HI.out.below hbW).cells (by omega)
      simp at e
      obtain ⟨rfl, rfl⟩ := e
      have d0 := hcs k g1 0 (by omega)
      have d1 := hcs k g1 1 (by omega)
      have d2 := hcs k g1 2 (by omega)
      have d3 := hcs k g1 3 (by omega)
      have d4 := hcs k g1 4 (by omega)
      have d5 := hcs k g1 5 (by omega)
      have d6 := hcs k g1 6 (by omega)
      have d7 := hcs k g1 7 (by omega)
      have d8 := hcs k g1 8 (by omega)
      have d9 := hcs k g1 9 (by omega)
      have d10 := hcs k g1 10 (by omega)
      have d11 := hcs k g1 11 (by omega)
      have d12 := hcs k g1 12 (by omega)
      have d13 := hcs k g1 13 (by omega)
      have d14 := hcs k g1 14 (by omega)
      have d15 := hcs k g1 15 (by omega)
      clear hcs hend
      generalize ds2[k] = r at *
      simp only [dxc, List.getElem?_cons_zero, List.getElem?_cons_succ, Nat.add_zero] at d0 d1 d2 d3 d4 d5 d6 d7 d8 d9 d10 d11 d12 d13 d14 d15
      have HDO := hide (do12_any w2.heap.size fa fb l' r wr hP hok' hsz)
      unfold dxc at HDO
      go_wp2_with fail
      refine HDO.out.mono ?_
      rintro e w5 ⟨rfl, hP5, hb5⟩
      have hbw5 : Below w2.heap.size w2 w5 := hbw.trans hb5
      clear d0 d1 d2 d3 d4 d5 d6 d7 d8 d9 d10 d11 d12 d13 d14 d15 HDO
      go_wp2_with fail
      go_roundw
      case rel => exact ⟨k + 1, _, by omega, by omega, by go_num, hP5, okX_do hok', hbw5⟩
      case measure => simp [intOf]; omega
    · have hPo5 := hPo.below hbw (Nat.le_refl _)
      have hl' := hok'.1
      have HS1 := hide (same12_any w.heap.size a b l ⟨0, 0, 0, 0, 0⟩ 0 wr hPo5 (by omega))
      have HS2 := hide (fun W (lw : Later wr W) => same12_any w2.heap.size fa fb l' ⟨0, 0, 0, 0, 0⟩ 0 W (hP.later lw) (by omega))
      unfold tuc at HS1 HS2
      rcases hend hgo with h | ⟨h, h'⟩
      case' inl =>
        have h1' : ¬ (k : Int) < ds2.length := by omega
        go_wp2_with fail
      case' inr =>
        have h1' : (k : Int) < ds2.length := by omega
        have h2' : ¬ (k : Int) < 40 := by omega
        go_wp2_with fail
      all_goals
        refine HS1.out.mono ?_
        rintro e w6 ⟨rfl, l6⟩
        go_wp2_with fail
        refine (HS2.out w6 l6).mono ?_
        rintro e w7 ⟨rfl, l7⟩
        have lb7 : Below w.heap.size w w7 := hbW.trans ((Later.trans l6 l7).mono (by omega))
        go_wp2_with fail
        go_ret
        exact ⟨by first | rfl | simp, lb7⟩
end Go.Proofs.Ytbimdhapkbdmjaa
