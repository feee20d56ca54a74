/- Package ctrl: frames built. -/
import Derived.Test.YtcdeiakeiehaaaaDoorCC
namespace Go.Proofs.YtcdeiakeiehaaaaDoor
open Go.RowKit Go.Shelf
set_option maxRecDepth 100000
set_option linter.unusedVariables false
set_option linter.unusedSimpArgs false

/-- The four beginnings, one behind the other. -/
def tab : List Int := [32, 1, 136, 11, 48, 1, 136, 11, 32, 129, 136, 11, 48, 129, 136, 11]
/-- They stand where the package keeps them. -/
def Tb (w : World) : Prop := ∀ i, i < 16 → w.cell? ⟨0, i, none⟩ = some (.int .u8 (tab[i]?.getD 0))
theorem Tb.pos {w : World} (h : Tb w) : 0 < w.heap.size := World.block_lt_of_cell? w ⟨0, 0, none⟩ (h 0 (by omega))
theorem Tb.below {w w' : World} {n : Nat} (h : Tb w) (hb : Below n w w') (hn : 0 < n) : Tb w' := fun i hi => (hb.cell (p := ⟨0, i, none⟩) hn).trans (h i hi)
theorem Tb.later {w w' : World} (h : Tb w) (l : Later w w') : Tb w' := h.below l h.pos

/-- A number's four bytes, if it is there. -/
def num4 (b : Bool) (v : Int) : List Int := if b then [v / 65536 / 256, v / 65536 % 256, v % 65536 / 256, v % 65536 % 256] else []
/-- A frame's bytes. -/
def grb (cl : Int) (hs ha : Bool) (sq ak : Int) (zd : List Int) : List Int :=
  [if hs then 48 else 32, if ha then 129 else 1, 136, 11, (zd.length : Int) % 65536 / 256, (zd.length : Int) % 65536 % 256, cl / 256, cl % 256] ++ ((num4 hs sq ++ num4 ha ak) ++ zd)
theorem num4_length (b : Bool) (v : Int) : (num4 b v).length = if b then 4 else 0 := by cases b <;> rfl
/-- How many bytes a frame has. -/
def grn (hs ha : Bool) (n : Nat) : Nat := 8 + ((if hs then 4 else 0) + (if ha then 4 else 0)) + n
theorem grb_length (cl : Int) (hs ha : Bool) (sq ak : Int) (zd : List Int) : (grb cl hs ha sq ak zd).length = grn hs ha zd.length := by
  unfold grb grn
  simp only [List.length_append, num4_length, List.length_cons, List.length_nil]
  omega
theorem By_num4 (b : Bool) (v : Int) (hv : 0 ≤ v ∧ v ≤ 4294967295) : Mt.By (num4 b v) := by
  cases b
  · exact Mt.By.nil
  · exact .mk (by omega) (.mk (by omega) (.mk (by omega) (.mk (by omega) .nil)))
theorem By_grb (cl : Int) (hs ha : Bool) (sq ak : Int) (zd : List Int) (h1 : 0 ≤ cl ∧ cl ≤ 65535) (h2 : 0 ≤ sq ∧ sq ≤ 4294967295) (h3 : 0 ≤ ak ∧ ak ≤ 4294967295) (hB : Mt.By zd) : Mt.By (grb cl hs ha sq ak zd) := by
  unfold grb
  refine Mt.By.append ?_ (Mt.By.append (Mt.By.append (By_num4 hs sq h2) (By_num4 ha ak h3)) hB)
  exact .mk (by split <;> omega) (.mk (by split <;> omega) (.mk (by omega) (.mk (by omega) (.mk (by omega) (.mk (by omega) (.mk (by omega) (.mk (by omega) .nil)))))))
theorem grb_join (cl : Int) (hs ha : Bool) (sq ak : Int) (zd : List Int) :
    [[if hs then 48 else 32, if ha then 129 else 1, 136, 11], [(zd.length : Int) % 65536 / 256, (zd.length : Int) % 65536 % 256], [cl / 256, cl % 256], num4 hs sq ++ num4 ha ak, zd].flatten = grb cl hs ha sq ak zd := by simp [grb]
/-- A number, or 0. -/
def bI (b : Bool) (v : Int) : Int := if b then v else 0
/-- Is a frame not right? -/
def grf (hs ha : Bool) (sq ak : Int) : Bool := (!hs && sq != 0) || (!ha && ak != 0)

theorem Rd.block4 {W : World} {fb : Nat} {t : TypeId} {a b c d : Int} (h : W.heap[fb]? = some (.cells #[.int .u8 a, .int .u8 b, .int .u8 c, .int .u8 d] t (0, 0))) : Rd W.heap.size W (.slice (some ⟨fb, 0, none⟩) 4 4) [a, b, c, d] :=
  .inr ⟨fb, 0, 4, rfl, by simp, by simp, by omega, (Array.getElem?_eq_some_iff.1 h).1, fun j hj => by
    rw [Nat.zero_add, block_cell h]
    match j, hj with
    | 0, _ => rfl
    | 1, _ => rfl
    | 2, _ => rfl
    | 3, _ => rfl⟩

set_option maxHeartbeats 1000000 in
theorem buildGre_bad (tos id ttl proto src dst cl sq ak : Int) (keep hs ha : Bool) (so sd sm : Value) (w : World) (hg : grf hs ha sq ak = true) :
    Calls Tryd.prog 8 #[.agg #[.int .u8 tos, .int .u16 id, .bool keep, .int .u8 ttl, .int .u8 proto, .int .u32 src, .int .u32 dst, so, sd], .agg #[.int .u16 cl, .bool hs, .bool ha, .int .u32 sq, .int .u32 ak, sm]] w fun e w' => Below w.heap.size w w' ∧ e = .returned (.tuple #[.agg zcc.toArray, .int .i64 4]) := by
  have hb0 : Below w.heap.size w (((w.alloc (.cells #[.int .u8 tos, .int .u16 id, .bool keep, .int .u8 ttl, .int .u8 proto, .int .u32 src, .int .u32 dst, so, sd] 26)).alloc (.cells #[.int .u16 cl, .bool hs, .bool ha, .int .u32 sq, .int .u32 ak, sm] 30)).alloc (.cells zcc.toArray 26)) := (((Below.refl _ _).alloc (Nat.le_refl _) _).alloc (by simp) _).alloc (by simp; omega) _
  cases hs
  · cases h1 : (sq != 0)
    · cases ha
      · have h2 : (ak != 0) = true := by simpa [grf, h1] using hg
        clear hg
        go_enter Tryd.func8, Tryd.ntmps8
        go_wp2_with fail
        exact bodyPost_ret (v := .tuple #[.agg zcc.toArray, .int .i64 4]) (by simp [results, Tryd.results8, go_sem]) rfl ⟨hb0, rfl⟩
      · simp [grf, h1] at hg
    · clear hg
      go_enter Tryd.func8, Tryd.ntmps8
      go_wp2_with fail
      exact bodyPost_ret (v := .tuple #[.agg zcc.toArray, .int .i64 4]) (by simp [results, Tryd.results8, go_sem]) rfl ⟨hb0, rfl⟩
  · cases ha
    · have h2 : (ak != 0) = true := by simpa [grf] using hg
      clear hg
      go_enter Tryd.func8, Tryd.ntmps8
      go_wp2_with fail
      exact bodyPost_ret (v := .tuple #[.agg zcc.toArray, .int .i64 4]) (by simp [results, Tryd.results8, go_sem]) rfl ⟨hb0, rfl⟩
    · simp [grf] at hg

set_option maxHeartbeats 4000000 in
theorem buildGre_any (tos id ttl proto src dst cl sq ak : Int) (keep hs ha : Bool) (so sd sm : Value) (zo zd : List Int) (w : World) (hT : Tb w) (hBo : Mt.By zo) (hIo : Rd w.heap.size w so zo) (hBd : Mt.By zd) (hIm : Rd w.heap.size w sm zd)
    (h1 : zo.length ≤ 140737488355328) (h2 : 16 + zd.length ≤ 140737488355328) (ht : 0 ≤ tos ∧ tos ≤ 255) (hid : 0 ≤ id ∧ id ≤ 65535) (htt : 0 ≤ ttl ∧ ttl ≤ 255) (hsr : 0 ≤ src ∧ src ≤ 4294967295) (hds : 0 ≤ dst ∧ dst ≤ 4294967295)
    (hcl : 0 ≤ cl ∧ cl ≤ 65535) (hsq : 0 ≤ sq ∧ sq ≤ 4294967295) (hak : 0 ≤ ak ∧ ak ≤ 4294967295) (hg : grf hs ha sq ak = false) :
    Calls Tryd.prog 8 #[.agg #[.int .u8 tos, .int .u16 id, .bool keep, .int .u8 ttl, .int .u8 proto, .int .u32 src, .int .u32 dst, so, sd], .agg #[.int .u16 cl, .bool hs, .bool ha, .int .u32 sq, .int .u32 ak, sm]] w fun e w' => Below w.heap.size w w' ∧ ((flt zo.length (grn hs ha zd.length) ≠ 0 ∧ e = .returned (.tuple #[.agg zcc.toArray, .int .i64 (flt zo.length (grn hs ha zd.length))])) ∨
      (flt zo.length (grn hs ha zd.length) = 0 ∧ ∃ ao co ad cd, e = .returned (.tuple #[.agg #[.int .u8 tos, .int .u16 id, .bool keep, .int .u8 ttl, .int .u8 47, .int .u32 src, .int .u32 dst, .slice ao zo.length co, .slice ad (grn hs ha zd.length) cd], .int .i64 0]) ∧ Ow w.heap.size w' (.slice ao zo.length co) zo ∧ Ow w.heap.size w' (.slice ad (grn hs ha zd.length) cd) (grb cl hs ha sq ak zd))) := by
  obtain ⟨ao, coo, rfl, hl1, hm1⟩ := hIo.slice
  obtain ⟨am, cm, rfl, hl2, hm2⟩ := hIm.slice
  have hb0 : Below w.heap.size w (((w.alloc (.cells #[.int .u8 tos, .int .u16 id, .bool keep, .int .u8 ttl, .int .u8 proto, .int .u32 src, .int .u32 dst, .slice ao zo.length coo, sd] 26)).alloc (.cells #[.int .u16 cl, .bool hs, .bool ha, .int .u32 sq, .int .u32 ak, .slice am zd.length cm] 30)).alloc (.cells zcc.toArray 26)) := (((Below.refl _ _).alloc (Nat.le_refl _) _).alloc (by simp) _).alloc (by simp; omega) _
  have hT0 : Tb (((w.alloc (.cells #[.int .u8 tos, .int .u16 id, .bool keep, .int .u8 ttl, .int .u8 proto, .int .u32 src, .int .u32 dst, .slice ao zo.length coo, sd] 26)).alloc (.cells #[.int .u16 cl, .bool hs, .bool ha, .int .u32 sq, .int .u32 ak, .slice am zd.length cm] 30)).alloc (.cells zcc.toArray 26)) := hT.below hb0 hT.pos
  have hp := hT.pos
  go_enter Tryd.func8, Tryd.ntmps8
  go_upto_region 1 with fail
  go_cut [26] (fun z wx => z = .bool false ∧ wx = ((w.alloc (.cells #[.int .u8 tos, .int .u16 id, .bool keep, .int .u8 ttl, .int .u8 proto, .int .u32 src, .int .u32 dst, .slice ao zo.length coo, sd] 26)).alloc (.cells #[.int .u16 cl, .bool hs, .bool ha, .int .u32 sq, .int .u32 ak, .slice am zd.length cm] 30)).alloc (.cells zcc.toArray 26))
  case first =>
    cases hs
    · have hq : (sq != 0) = false := by simp [grf] at hg; simp [hg.1]
      cases ha
      · have hk : (ak != 0) = false := by simp [grf] at hg; simp [hg.2]
        clear hg
        go_wp2_with fail
        go_meet
        case rel => exact ⟨rfl, rfl⟩
      · clear hg
        go_wp2_with fail
        go_meet
        case rel => exact ⟨rfl, rfl⟩
    · cases ha
      · have hk : (ak != 0) = false := by simp [grf] at hg; simp [hg]
        clear hg
        go_wp2_with fail
        go_meet
        case rel => exact ⟨rfl, rfl⟩
      · clear hg
        go_wp2_with fail
        go_meet
        case rel => exact ⟨rfl, rfl⟩
  case rest =>
    obtain ⟨rfl, rfl⟩ := hcut
    go_upto_if 29 with fail
    have p0 : (((w.alloc (.cells #[.int .u8 tos, .int .u16 id, .bool keep, .int .u8 ttl, .int .u8 proto, .int .u32 src, .int .u32 dst, .slice ao zo.length coo, sd] 26)).alloc (.cells #[.int .u16 cl, .bool hs, .bool ha, .int .u32 sq, .int .u32 ak, .slice am zd.length cm] 30)).alloc (.cells zcc.toArray 26)).heap[w.heap.size]? = some (.cells #[.int .u8 tos, .int .u16 id, .bool keep, .int .u8 ttl, .int .u8 proto, .int .u32 src, .int .u32 dst, .slice ao zo.length coo, sd] 26) := (Below.heap_alloc _ _ _ (by simp; omega)).trans ((Below.heap_alloc _ _ _ (by simp)).trans (heap_alloc_new w _))
    have f0 : (((w.alloc (.cells #[.int .u8 tos, .int .u16 id, .bool keep, .int .u8 ttl, .int .u8 proto, .int .u32 src, .int .u32 dst, .slice ao zo.length coo, sd] 26)).alloc (.cells #[.int .u16 cl, .bool hs, .bool ha, .int .u32 sq, .int .u32 ak, .slice am zd.length cm] 30)).alloc (.cells zcc.toArray 26)).heap[w.heap.size + 1]? = some (.cells #[.int .u16 cl, .bool hs, .bool ha, .int .u32 sq, .int .u32 ak, .slice am zd.length cm] 30) := by
      have := heap_alloc_new (w.alloc (.cells #[.int .u8 tos, .int .u16 id, .bool keep, .int .u8 ttl, .int .u8 proto, .int .u32 src, .int .u32 dst, .slice ao zo.length coo, sd] 26)) (.cells #[.int .u16 cl, .bool hs, .bool ha, .int .u32 sq, .int .u32 ak, .slice am zd.length cm] 30)
      rw [World.size_alloc] at this
      exact (Below.heap_alloc _ _ _ (by simp)).trans this
    have r0 : (((w.alloc (.cells #[.int .u8 tos, .int .u16 id, .bool keep, .int .u8 ttl, .int .u8 proto, .int .u32 src, .int .u32 dst, .slice ao zo.length coo, sd] 26)).alloc (.cells #[.int .u16 cl, .bool hs, .bool ha, .int .u32 sq, .int .u32 ak, .slice am zd.length cm] 30)).alloc (.cells zcc.toArray 26)).heap[w.heap.size + 1 + 1]? = some (.cells zcc.toArray 26 (0, 0)) := by
      have := heap_alloc_new ((w.alloc (.cells #[.int .u8 tos, .int .u16 id, .bool keep, .int .u8 ttl, .int .u8 proto, .int .u32 src, .int .u32 dst, .slice ao zo.length coo, sd] 26)).alloc (.cells #[.int .u16 cl, .bool hs, .bool ha, .int .u32 sq, .int .u32 ak, .slice am zd.length cm] 30)) (.cells zcc.toArray 26)
      simpa using this
    have hs0 : (((w.alloc (.cells #[.int .u8 tos, .int .u16 id, .bool keep, .int .u8 ttl, .int .u8 proto, .int .u32 src, .int .u32 dst, .slice ao zo.length coo, sd] 26)).alloc (.cells #[.int .u16 cl, .bool hs, .bool ha, .int .u32 sq, .int .u32 ak, .slice am zd.length cm] 30)).alloc (.cells zcc.toArray 26)).heap.size = w.heap.size + 3 := by simp
    have HS0 := hide hs0
    have P0 := hide p0
    have F0 := hide f0
    have R0 := hide r0
    clear hs0 p0 f0 r0 hg
    generalize ((w.alloc (.cells #[.int .u8 tos, .int .u16 id, .bool keep, .int .u8 ttl, .int .u8 proto, .int .u32 src, .int .u32 dst, .slice ao zo.length coo, sd] 26)).alloc (.cells #[.int .u16 cl, .bool hs, .bool ha, .int .u32 sq, .int .u32 ak, .slice am zd.length cm] 30)).alloc (.cells zcc.toArray 26) = W0 at *
    go_cut [6, 7] (fun z v wx => z = .int .i64 (bI hs 1) ∧ Ow (w.heap.size + 3) wx v (num4 hs sq) ∧ Later W0 wx)
    case first =>
      have K0 := block_cell F0.out
      cases hs
      · go_wp2_with fail
        go_meet
        case rel => exact ⟨rfl, .inl ⟨rfl, rfl⟩, Later.refl _⟩
      · go_wp2_with fail
        refine (cfour_any sq hsq W0).mono ?_
        rintro e w1 ⟨a1, rfl, hO1, hb1⟩
        have k1 := heap_alloc_new w1 (.cells [.slice none 0 0, .slice a1 4 4].toArray 24)
        have hbA : Later w1 (w1.alloc (.cells [.slice none 0 0, .slice a1 4 4].toArray 24)) := (Below.refl _ _).alloc (Nat.le_refl _) _
        clear K0
        go_wp2_with fail
        generalize w1.alloc (.cells #[.slice none 0 0, .slice a1 4 4] 24) = w2 at *
        refine (joined_rds w1.heap.size 24 [.slice none 0 0, .slice a1 4 4] [[], num4 true sq] w2 k1 ⟨rd_zero _, hO1.rd.later hbA, trivial⟩ (by simp) (by simp [num4])).mono ?_
        rintro e w3 ⟨v3, rfl, hO3, hb3⟩
        have hO4 := Ow.of_row hO3
        obtain ⟨a3, c3, rfl, _, _⟩ := hO4.slice
        go_wp2_with fail
        go_meet
        case rel => exact ⟨rfl, (by simpa using hO4.mono (by have := hb1.size; have := hbA.size; have := HS0.out; omega)), Later.trans hb1 (Later.trans hbA hb3)⟩
    case rest =>
      obtain ⟨rfl, hO7, hL1⟩ := hcut
      have K1 := block_cell ((hL1.block (w.heap.size + 1) (by have := HS0.out; omega)).trans F0.out)
      go_upto_if 39 with fail
      go_cut [6, 7] (fun z v wx => z = .int .i64 (bI hs 1 + bI ha 2) ∧ Ow (w.heap.size + 3) wx v (num4 hs sq ++ num4 ha ak) ∧ Later W0 wx)
      case first =>
        have hb1 : bI hs 1 = 0 ∨ bI hs 1 = 1 := by cases hs <;> simp [bI]
        cases ha
        · go_wp2_with fail
          go_meet
          case rel => exact ⟨by simp [bI], (by simpa [num4] using hO7), hL1⟩
        · have hor : bits .or .i64 (bI hs 1) 2 = bI hs 1 + bI true 2 := by cases hs <;> rfl
          obtain ⟨a7, c7, rfl, _, _⟩ := hO7.slice
          obtain ⟨n7, hn7⟩ : ∃ n, (num4 hs sq).length = n := ⟨_, rfl⟩
          rw [hn7] at hO7 ⊢
          have HN7 := hide hn7
          have hn8 : n7 ≤ 4 := by rw [← hn7, num4_length]; split <;> omega
          clear hn7
          go_wp2_with fail
          refine (cfour_any ak hak wc).mono ?_
          rintro e w1 ⟨a1, rfl, hO1, hb1⟩
          have k1 := heap_alloc_new w1 (.cells [.slice a7 n7 c7, .slice a1 4 4].toArray 24)
          have hbA : Later w1 (w1.alloc (.cells [.slice a7 n7 c7, .slice a1 4 4].toArray 24)) := (Below.refl _ _).alloc (Nat.le_refl _) _
          clear K1
          go_wp2_with fail
          generalize w1.alloc (.cells #[.slice a7 n7 c7, .slice a1 4 4] 24) = w2 at *
          refine (joined_rds w1.heap.size 24 [.slice a7 n7 c7, .slice a1 4 4] [num4 hs sq, num4 true ak] w2 k1 ⟨(hO7.rd.later (Later.trans hb1 hbA)), hO1.rd.later hbA, trivial⟩ (by simp) (by simp only [List.flatten_cons, List.flatten_nil, List.append_nil, List.length_append, HN7.out, num4_length]; simp; omega)).mono ?_
          rintro e w3 ⟨v3, rfl, hO3, hb3⟩
          have hO4 := Ow.of_row hO3
          obtain ⟨a3, c3, rfl, _, _⟩ := hO4.slice
          go_wp2_with fail
          go_meet
          case rel => exact ⟨rfl, (by simpa using hO4.mono (by have := hb1.size; have := hbA.size; have := hL1.size; have := HS0.out; omega)), hL1.trans (Later.trans hb1 (Later.trans hbA hb3))⟩
      case rest =>
        obtain ⟨rfl, hO7, hL2⟩ := hcut
        clear K1
        go_upto_region 11 with fail
        go_cut [8] (fun p wx => ∃ fb, p = .pointer (some ⟨fb, 0, none⟩) ∧ w.heap.size + 3 ≤ fb ∧ wx.heap[fb]? = some (.cells #[.int .u8 (32 + bI hs 16), .int .u8 (1 + bI ha 128), .int .u8 136, .int .u8 11] 52 (0, 0)) ∧ Later W0 wx ∧ Later wc wx)
        case first =>
          have hTc := hT0.later hL2
          cases hs
          · cases ha
            · have T0 := hTc 0 (by omega)
              have T1 := hTc 1 (by omega)
              have T2 := hTc 2 (by omega)
              have T3 := hTc 3 (by omega)
              simp only [show bI false 1 + bI false 2 = (0 : Int) from rfl]
              simp [tab] at T0 T1 T2 T3
              have k1 := heap_alloc_new wc (.cells #[.int .u8 32, .int .u8 1, .int .u8 136, .int .u8 11] 52)
              clear hTc
              go_wp2_with fail
              go_meet
              case rel => exact ⟨wc.heap.size, rfl, (by have := hL2.size; have := HS0.out; omega), k1, hL2.trans ((Below.refl _ _).alloc (Nat.le_refl _) _), (Below.refl _ _).alloc (Nat.le_refl _) _⟩
            · have T0 := hTc 8 (by omega)
              have T1 := hTc 9 (by omega)
              have T2 := hTc 10 (by omega)
              have T3 := hTc 11 (by omega)
              simp only [show bI false 1 + bI true 2 = (2 : Int) from rfl]
              simp [tab] at T0 T1 T2 T3
              have k1 := heap_alloc_new wc (.cells #[.int .u8 32, .int .u8 129, .int .u8 136, .int .u8 11] 52)
              clear hTc
              go_wp2_with fail
              go_meet
              case rel => exact ⟨wc.heap.size, rfl, (by have := hL2.size; have := HS0.out; omega), k1, hL2.trans ((Below.refl _ _).alloc (Nat.le_refl _) _), (Below.refl _ _).alloc (Nat.le_refl _) _⟩
          · cases ha
            · have T0 := hTc 4 (by omega)
              have T1 := hTc 5 (by omega)
              have T2 := hTc 6 (by omega)
              have T3 := hTc 7 (by omega)
              simp only [show bI true 1 + bI false 2 = (1 : Int) from rfl]
              simp [tab] at T0 T1 T2 T3
              have k1 := heap_alloc_new wc (.cells #[.int .u8 48, .int .u8 1, .int .u8 136, .int .u8 11] 52)
              clear hTc
              go_wp2_with fail
              go_meet
              case rel => exact ⟨wc.heap.size, rfl, (by have := hL2.size; have := HS0.out; omega), k1, hL2.trans ((Below.refl _ _).alloc (Nat.le_refl _) _), (Below.refl _ _).alloc (Nat.le_refl _) _⟩
            · have T0 := hTc 12 (by omega)
              have T1 := hTc 13 (by omega)
              have T2 := hTc 14 (by omega)
              have T3 := hTc 15 (by omega)
              simp only [show bI true 1 + bI true 2 = (3 : Int) from rfl]
              simp [tab] at T0 T1 T2 T3
              have k1 := heap_alloc_new wc (.cells #[.int .u8 48, .int .u8 129, .int .u8 136, .int .u8 11] 52)
              clear hTc
              go_wp2_with fail
              go_meet
              case rel => exact ⟨wc.heap.size, rfl, (by have := hL2.size; have := HS0.out; omega), k1, hL2.trans ((Below.refl _ _).alloc (Nat.le_refl _) _), (Below.refl _ _).alloc (Nat.le_refl _) _⟩
        case rest =>
          obtain ⟨fb, rfl, hfb, hfk, hL3, hL23⟩ := hcut
          have hO8 := hO7.later hL23
          have pW := (hL3.block w.heap.size (by have := HS0.out; omega)).trans P0.out
          have fW := (hL3.block (w.heap.size + 1) (by have := HS0.out; omega)).trans F0.out
          have rW := (hL3.block (w.heap.size + 1 + 1) (by have := HS0.out; omega)).trans R0.out
          have hsW : w.heap.size + 3 ≤ wc.heap.size := by have := hL3.size; have := HS0.out; omega
          have hfbW : fb < wc.heap.size := (Array.getElem?_eq_some_iff.1 hfk).1
          have hwc : Below w.heap.size w wc := hb0.trans (hL3.mono (by have := HS0.out; omega))
          have hΦ0 : Stays (fun arr W => (flt zo.length (grn hs ha zd.length) ≠ 0 ∧ arr = zcc.toArray) ∨ (flt zo.length (grn hs ha zd.length) = 0 ∧ ∃ ao co ad cd, arr = #[.int .u8 tos, .int .u16 id, .bool keep, .int .u8 ttl, .int .u8 47, .int .u32 src, .int .u32 dst, .slice ao zo.length co, .slice ad (grn hs ha zd.length) cd] ∧ Ow (w.heap.size + 3) W (.slice ao zo.length co) zo ∧ Ow (w.heap.size + 3) W (.slice ad (grn hs ha zd.length) cd) (grb cl hs ha sq ak zd))) := by
            rintro arr A B l (h | ⟨h, ao, co, ad, cd, h1, h2, h3⟩)
            · exact .inl h
            · exact .inr ⟨h, ao, co, ad, cd, h1, h2.later l, h3.later l⟩
          obtain ⟨Φ, HΦ⟩ : ∃ Φ : Array Value → World → Prop, Hid (Φ = (fun arr W => (flt zo.length (grn hs ha zd.length) ≠ 0 ∧ arr = zcc.toArray) ∨ (flt zo.length (grn hs ha zd.length) = 0 ∧ ∃ ao co ad cd, arr = #[.int .u8 tos, .int .u16 id, .bool keep, .int .u8 ttl, .int .u8 47, .int .u32 src, .int .u32 dst, .slice ao zo.length co, .slice ad (grn hs ha zd.length) cd] ∧ Ow (w.heap.size + 3) W (.slice ao zo.length co) zo ∧ Ow (w.heap.size + 3) W (.slice ad (grn hs ha zd.length) cd) (grb cl hs ha sq ak zd)))) := ⟨_, rfl⟩
          have hΦ : Stays Φ := by rw [HΦ.out]; exact hΦ0
          clear hΦ0
          have hLn := (Ow.rd hO8).slice
          obtain ⟨an, cn, rfl, _, _⟩ := hO8.slice
          generalize hln : (num4 hs sq ++ num4 ha ak).length = ln at hO8
          have HLN := hide hln
          clear hln hLn
          go_wp2_with fail
          refine anyR_begin (R := KR (w.heap.size + 1 + 1) 9 26 Φ) (Keep.pre _ _ _) (fun w => KR.of hΦ (Later.drew w)) 20 rfl (by kernel_rfl) (fun W1 hW1 => ?_)
          have hg1 : Wr (w.heap.size + 1 + 1) 9 26 W1 := hW1.2.1 ⟨_, rW, rfl⟩
          have hbut : ∀ w1, KR (w.heap.size + 1 + 1) 9 26 Φ W1 w1 → But (fun b => b = w.heap.size + 1 + 1) wc w1 := fun w1 h => hW1.1.trans h.1
          have hbel : ∀ w1, KR (w.heap.size + 1 + 1) 9 26 Φ W1 w1 → Below w.heap.size w w1 := fun w1 h => hwc.trans ((hbut w1 h).below (by omega) (fun k h e => by omega))
          have hq : ∀ w1, KR (w.heap.size + 1 + 1) 9 26 Φ W1 w1 → ∀ j, w1.cell? ⟨w.heap.size, j, none⟩ = #[Value.int .u8 tos, .int .u16 id, .bool keep, .int .u8 ttl, .int .u8 proto, .int .u32 src, .int .u32 dst, .slice ao zo.length coo, sd][j]? := fun w1 h => block_cell (((hbut w1 h).block w.heap.size (by omega) (by omega)).trans pW)
          have hfr : ∀ w1, KR (w.heap.size + 1 + 1) 9 26 Φ W1 w1 → ∀ j, w1.cell? ⟨w.heap.size + 1, j, none⟩ = #[Value.int .u16 cl, .bool hs, .bool ha, .int .u32 sq, .int .u32 ak, .slice am zd.length cm][j]? := fun w1 h => block_cell (((hbut w1 h).block (w.heap.size + 1) (by omega) (by omega)).trans fW)
          refine anyR_val (Keep.pre _ _ _) 0 rfl (by kernel_rfl) (by kernel_rfl) (by kernel_rfl) (fun _ _ _ _ h => h) rfl ?_; apply Exists.intro; refine ⟨fun w1 hw1 => ?_, ?_⟩; (· (go_simp; rfl)); simp only [Act.put, List.setIfInBounds_toArray, List.set_cons_zero, List.set_cons_succ]
          refine anyR_val (Keep.pre _ _ _) 1 rfl (by kernel_rfl) (by kernel_rfl) (by kernel_rfl) (fun _ _ _ _ h => h) rfl ?_; apply Exists.intro; refine ⟨fun w1 hw1 => ?_, ?_⟩; (· (go_simp; rfl)); simp only [Act.put, List.setIfInBounds_toArray, List.set_cons_zero, List.set_cons_succ]
          refine anyR_val (Keep.pre _ _ _) 2 rfl (by kernel_rfl) (by kernel_rfl) (by kernel_rfl) (fun _ _ _ _ h => h) rfl ?_; apply Exists.intro; refine ⟨fun w1 hw1 => ?_, ?_⟩; (· (go_simp; rfl)); simp only [Act.put, List.setIfInBounds_toArray, List.set_cons_zero, List.set_cons_succ]
          refine anyR_val (Keep.pre _ _ _) 3 rfl (by kernel_rfl) (by kernel_rfl) (by kernel_rfl) (fun _ _ _ _ h => h) rfl ?_; apply Exists.intro; refine ⟨fun w1 hw1 => ?_, ?_⟩; (· (go_simp; rfl)); simp only [Act.put, List.setIfInBounds_toArray, List.set_cons_zero, List.set_cons_succ]
          refine anyR_val (Keep.pre _ _ _) 4 rfl (by kernel_rfl) (by kernel_rfl) (by kernel_rfl) (fun _ _ _ _ h => h) rfl ?_; apply Exists.intro; refine ⟨fun w1 hw1 => ?_, ?_⟩; (· (go_simp; rfl)); simp only [Act.put, List.setIfInBounds_toArray, List.set_cons_zero, List.set_cons_succ]
          refine anyR_val (Keep.pre _ _ _) 5 rfl (by kernel_rfl) (by kernel_rfl) (by kernel_rfl) (fun _ _ _ _ h => h) rfl ?_; apply Exists.intro; refine ⟨fun w1 hw1 => ?_, ?_⟩; (· (go_simp; rfl)); simp only [Act.put, List.setIfInBounds_toArray, List.set_cons_zero, List.set_cons_succ]
          refine anyR_val (Keep.pre _ _ _) 7 rfl (by kernel_rfl) (by kernel_rfl) (by kernel_rfl) (fun _ _ _ _ h => h) rfl ?_; apply Exists.intro; refine ⟨fun w1 hw1 => ?_, ?_⟩; (· (go_simp; rfl)); simp only [Act.put, List.setIfInBounds_toArray, List.set_cons_zero, List.set_cons_succ]
          refine anyR_val (Keep.pre _ _ _) 8 rfl (by kernel_rfl) (by kernel_rfl) (by kernel_rfl) (fun _ _ _ _ h => h) rfl ?_; apply Exists.intro; refine ⟨fun w1 hw1 => ?_, ?_⟩; (· (go_simp; rfl)); simp only [Act.put, List.setIfInBounds_toArray, List.set_cons_zero, List.set_cons_succ]
          refine anyR_val (Keep.pre _ _ _) 10 rfl (by kernel_rfl) (by kernel_rfl) (by kernel_rfl) (fun _ _ _ _ h => h) rfl ?_; apply Exists.intro; refine ⟨fun w1 hw1 => ?_, ?_⟩; (· (go_simp; rfl)); simp only [Act.put, List.setIfInBounds_toArray, List.set_cons_zero, List.set_cons_succ]
          refine anyR_val (Keep.pre _ _ _) 11 rfl (by kernel_rfl) (by kernel_rfl) (by kernel_rfl) (fun _ _ _ _ h => h) rfl ?_; apply Exists.intro; refine ⟨fun w1 hw1 => ?_, ?_⟩; (· (go_simp; rfl)); simp only [Act.put, List.setIfInBounds_toArray, List.set_cons_zero, List.set_cons_succ]
          refine anyR_val (Keep.pre _ _ _) 12 rfl (by kernel_rfl) (by kernel_rfl) (by kernel_rfl) (fun _ _ _ _ h => h) rfl ?_; apply Exists.intro; refine ⟨fun w1 hw1 => ?_, ?_⟩; (· (go_simp; rfl)); simp only [Act.put, List.setIfInBounds_toArray, List.set_cons_zero, List.set_cons_succ]
          refine anyR_one 6 rfl (by kernel_rfl) rfl (fun W2 hW2 => ?_)
          refine wp_enter 18 #[.int .u16 ((zd.length : Int) % 65536)] (by go_simp; rw [IntKind.wrap_u16]) ?_
          refine (ctwo_any ((zd.length : Int) % 65536) (by omega) W2).mono ?_
          rintro e W3 ⟨a3, rfl, hO3, hb3⟩
          have hW13 := hW2.trans (KR.of hΦ hb3)
          refine ⟨KR.of hΦ hb3, ?_⟩
          simp only [Act.put, List.setIfInBounds_toArray, List.set_cons_zero, List.set_cons_succ]
          refine anyR_one 9 rfl (by kernel_rfl) rfl (fun W3b hW3b => ?_)
          refine wp_enter 18 #[.int .u16 cl] (by go_simp) ?_
          refine (ctwo_any cl hcl W3b).mono ?_
          rintro e W4 ⟨a4, rfl, hO4, hb4⟩
          have hW14 := (hW13.trans hW3b).trans (KR.of hΦ hb4)
          refine ⟨KR.of hΦ hb4, ?_⟩
          simp only [Act.put, List.setIfInBounds_toArray, List.set_cons_zero, List.set_cons_succ]
          refine anyR_one 13 rfl (by kernel_rfl) rfl (fun W5 hW5 => ?_)
          unfold Oper.wp
          go_simp
          have k5 := heap_alloc_new W5 (.cells [.slice (some ⟨fb, 0, none⟩) 4 4, .slice a3 2 2, .slice a4 2 2, .slice an ln cn, .slice am zd.length cm].toArray 24)
          have hbA : Later W5 (W5.alloc (.cells [.slice (some ⟨fb, 0, none⟩) 4 4, .slice a3 2 2, .slice a4 2 2, .slice an ln cn, .slice am zd.length cm].toArray 24)) := (Below.refl _ _).alloc (Nat.le_refl _) _
          refine ⟨KR.of hΦ hbA, ?_⟩
          have hW15a := (hW14.trans hW5).trans (KR.of hΦ hbA)
          have hs5 : w.heap.size + 3 ≤ W5.heap.size := Nat.le_trans hsW (hbut W5 (hW14.trans hW5)).size
          have hs2 : w.heap.size + 3 ≤ W2.heap.size := Nat.le_trans hsW (hbut W2 hW2).size
          have hs3 : w.heap.size + 3 ≤ W3b.heap.size := Nat.le_trans hsW (hbut W3b (hW13.trans hW3b)).size
          generalize W5.alloc (.cells #[.slice (some ⟨fb, 0, none⟩) 4 4, .slice a3 2 2, .slice a4 2 2, .slice an ln cn, .slice am zd.length cm] 24) = W5a at *
          refine anyR_one 14 rfl (by kernel_rfl) rfl (fun W6a hW6a => ?_)
          have hW16a := hW15a.trans hW6a
          have k6 := (hW6a.1.block W5.heap.size (Array.getElem?_eq_some_iff.1 k5).1 (by omega)).trans k5
          have q1 : Rd W6a.heap.size W6a (.slice (some ⟨fb, 0, none⟩) 4 4) [if hs then 48 else 32, if ha then 129 else 1, 136, 11] := by
            have := Rd.block4 (((hbut W6a hW16a).block fb hfbW (by omega)).trans hfk)
            cases hs <;> cases ha <;> exact this
          have q2 := (hO3.but ((hW3b.trans (KR.of hΦ hb4)).trans ((hW5.trans (KR.of hΦ hbA)).trans hW6a)).1 (fun b h e => by omega)).rd
          have q3 := (hO4.but ((hW5.trans (KR.of hΦ hbA)).trans hW6a).1 (fun b h e => by omega)).rd
          have q4 := (hO8.but (hbut W6a hW16a) (fun b h e => by omega)).rd
          have q5 : Rd W6a.heap.size W6a (.slice am zd.length cm) zd := (hIm.below (hbel W6a hW16a)).mono (hbel W6a hW16a).size
          refine wp_enter 17 #[.slice (some ⟨W5.heap.size, 0, none⟩) 5 5] (by go_simp) ?_
          refine (joined_rds W5.heap.size 24 [.slice (some ⟨fb, 0, none⟩) 4 4, .slice a3 2 2, .slice a4 2 2, .slice an ln cn, .slice am zd.length cm] [[if hs then 48 else 32, if ha then 129 else 1, 136, 11], [(zd.length : Int) % 65536 / 256, (zd.length : Int) % 65536 % 256], [cl / 256, cl % 256], num4 hs sq ++ num4 ha ak, zd] W6a k6 ⟨q1, q2, q3, q4, q5, trivial⟩ (by simp) (by rw [grb_join, grb_length]; unfold grn; split <;> split <;> omega)).mono ?_
          rintro e W7 ⟨v7, rfl, hO7r, hb7⟩
          rw [grb_join] at hO7r
          have hO7w := Ow.of_row hO7r
          clear hO7r q1 q2 q3 q4 q5
          obtain ⟨a7, c7, rfl, _, _⟩ := hO7w.slice
          rw [grb_length] at hO7w ⊢
          have hW17 := hW16a.trans (KR.of hΦ hb7)
          have hs6 : w.heap.size + 3 ≤ W6a.heap.size := Nat.le_trans hsW (hbut W6a hW16a).size
          refine ⟨KR.of hΦ hb7, ?_⟩
          simp only [Act.put, List.setIfInBounds_toArray, List.set_cons_zero, List.set_cons_succ]
          refine anyR_one 15 rfl (by kernel_rfl) rfl (fun W8a hW8a => ?_)
          have hW18 := hW17.trans hW8a
          have hO8w := hO7w.but hW8a.1 (fun b h e => by omega)
          refine wp_enter 20 #[.agg #[.int .u8 tos, .int .u16 id, .bool keep, .int .u8 ttl, .int .u8 proto, .int .u32 src, .int .u32 dst, .slice ao zo.length coo, sd], .int .u8 47, .slice a7 (grn hs ha zd.length) c7] (by go_simp) ?_
          refine (cpacked_any tos id ttl proto src dst 47 keep _ _ _ zo (grb cl hs ha sq ak zd) W8a hBo ((hIo.below (hbel W8a hW18)).mono (hbel W8a hW18).size) hO8w.rd h1 (by rw [grb_length]; unfold grn; split <;> split <;> omega) ht hid htt (by omega) hsr hds).mono ?_
          rw [grb_length]
          have hs8 : w.heap.size + 3 ≤ W8a.heap.size := Nat.le_trans hsW (hbut W8a hW18).size
          rintro e W9 ⟨hb9, ⟨hf, rfl⟩ | ⟨hf, ao5, co5, rfl, hO5⟩⟩
          · have hW15 := hW18.trans (KR.of hΦ hb9)
            refine ⟨KR.of hΦ hb9, ?_⟩
            have HF := hide hf
            clear hf
            simp only [Act.put, List.setIfInBounds_toArray, List.set_cons_zero, List.set_cons_succ]
            refine anyR_val (Keep.pre _ _ _) 16 rfl (by kernel_rfl) (by kernel_rfl) (by kernel_rfl) (fun _ _ _ _ h => h) rfl ?_; apply Exists.intro; refine ⟨fun w1 hw1 => ?_, ?_⟩; (· (go_simp; rfl)); simp only [Act.put, List.setIfInBounds_toArray, List.set_cons_zero, List.set_cons_succ]
            refine anyR_val (Keep.pre _ _ _) 17 rfl (by kernel_rfl) (by kernel_rfl) (by kernel_rfl) (fun _ _ _ _ h => h) rfl ?_; apply Exists.intro; refine ⟨fun w1 hw1 => ?_, ?_⟩; (· (go_simp; rfl)); simp only [Act.put, List.setIfInBounds_toArray, List.set_cons_zero, List.set_cons_succ]
            refine anyR_one 18 rfl (by kernel_rfl) rfl (fun W6 hW6 => ?_)
            have hW16 := hW15.trans hW6
            have hg6 := hW16.2.1 hg1
            have hg6' := hg6
            obtain ⟨cur, hcur, hsz⟩ := hg6'
            have k6 : ∀ j, W6.cell? ⟨w.heap.size + 1 + 1, j, none⟩ = cur[j]? := block_cell hcur
            have f6 : ∀ j, W6.frozen? ⟨w.heap.size + 1 + 1, j, none⟩ = false := block_frozen hcur
            unfold Oper.wp
            go_simp
            generalize hV7 : ((((((((W6.setCell ⟨w.heap.size + 1 + 1, 0, none⟩ _).setCell ⟨w.heap.size + 1 + 1, 1, none⟩ _).setCell ⟨w.heap.size + 1 + 1, 2, none⟩ _).setCell ⟨w.heap.size + 1 + 1, 3, none⟩ _).setCell ⟨w.heap.size + 1 + 1, 4, none⟩ _).setCell ⟨w.heap.size + 1 + 1, 5, none⟩ _).setCell ⟨w.heap.size + 1 + 1, 6, none⟩ _).setCell ⟨w.heap.size + 1 + 1, 7, none⟩ _).setCell ⟨w.heap.size + 1 + 1, 8, none⟩ _ = V7
            have hV8 : V7 = putRow W6 (w.heap.size + 1 + 1) 0 zcc := hV7.symm
            have hSt := KR.store (Φ := Φ) zcc hg6 rfl (by rw [HΦ.out]; exact .inl ⟨HF.out, rfl⟩)
            rw [← hV8] at hSt
            clear hV7 hV8 k6 f6
            refine ⟨hSt.1, ?_⟩
            refine anyR_val (Keep.pre _ _ _) 19 rfl (by kernel_rfl) (by kernel_rfl) (by kernel_rfl) (fun _ _ _ _ h => h) rfl ?_; apply Exists.intro; refine ⟨fun w1 hw1 => ?_, ?_⟩; (· (go_simp; rfl)); simp only [Act.put, List.setIfInBounds_toArray, List.set_cons_zero, List.set_cons_succ]
            refine anyR_done (by kernel_rfl) (fun W8 hW8 => ?_)
            obtain ⟨arr, hh8, hP8⟩ := hW8.2.2 hSt.2
            have hw8 := hbel W8 ((hW16.trans hSt.1).trans hW8)
            clear hSt hq hfr hbut
            rw [HΦ.out] at hP8
            rcases hP8 with ⟨hf8, rfl⟩ | ⟨hf8, ao8, co8, ad8, cd8, rfl, hO8, hD8⟩
            · have r8 := block_cell hh8
              go_wp2_with fail
              exact bodyPost_ret (v := .tuple #[.agg zcc.toArray, .int .i64 (flt zo.length (grn hs ha zd.length))]) (by simp [results, Tryd.results8, go_sem, r8]) rfl ⟨hw8, .inl ⟨hf8, rfl⟩⟩
            · exact absurd hf8 HF.out
          · have hW15 := hW18.trans (KR.of hΦ hb9)
            refine ⟨KR.of hΦ hb9, ?_⟩
            have HF := hide hf
            clear hf
            simp only [Act.put, List.setIfInBounds_toArray, List.set_cons_zero, List.set_cons_succ]
            refine anyR_val (Keep.pre _ _ _) 16 rfl (by kernel_rfl) (by kernel_rfl) (by kernel_rfl) (fun _ _ _ _ h => h) rfl ?_; apply Exists.intro; refine ⟨fun w1 hw1 => ?_, ?_⟩; (· (go_simp; rfl)); simp only [Act.put, List.setIfInBounds_toArray, List.set_cons_zero, List.set_cons_succ]
            refine anyR_val (Keep.pre _ _ _) 17 rfl (by kernel_rfl) (by kernel_rfl) (by kernel_rfl) (fun _ _ _ _ h => h) rfl ?_; apply Exists.intro; refine ⟨fun w1 hw1 => ?_, ?_⟩; (· (go_simp; rfl)); simp only [Act.put, List.setIfInBounds_toArray, List.set_cons_zero, List.set_cons_succ]
            refine anyR_one 18 rfl (by kernel_rfl) rfl (fun W6 hW6 => ?_)
            have hW16 := hW15.trans hW6
            have hg6 := hW16.2.1 hg1
            have hg6' := hg6
            obtain ⟨cur, hcur, hsz⟩ := hg6'
            have k6 : ∀ j, W6.cell? ⟨w.heap.size + 1 + 1, j, none⟩ = cur[j]? := block_cell hcur
            have f6 : ∀ j, W6.frozen? ⟨w.heap.size + 1 + 1, j, none⟩ = false := block_frozen hcur
            unfold Oper.wp
            go_simp
            generalize hV7 : ((((((((W6.setCell ⟨w.heap.size + 1 + 1, 0, none⟩ _).setCell ⟨w.heap.size + 1 + 1, 1, none⟩ _).setCell ⟨w.heap.size + 1 + 1, 2, none⟩ _).setCell ⟨w.heap.size + 1 + 1, 3, none⟩ _).setCell ⟨w.heap.size + 1 + 1, 4, none⟩ _).setCell ⟨w.heap.size + 1 + 1, 5, none⟩ _).setCell ⟨w.heap.size + 1 + 1, 6, none⟩ _).setCell ⟨w.heap.size + 1 + 1, 7, none⟩ _).setCell ⟨w.heap.size + 1 + 1, 8, none⟩ _ = V7
            have hV8 : V7 = putRow W6 (w.heap.size + 1 + 1) 0 [.int .u8 tos, .int .u16 id, .bool keep, .int .u8 ttl, .int .u8 47, .int .u32 src, .int .u32 dst, .slice ao5 zo.length co5, .slice a7 (grn hs ha zd.length) c7] := hV7.symm
            have hSt := KR.store (Φ := Φ) [.int .u8 tos, .int .u16 id, .bool keep, .int .u8 ttl, .int .u8 47, .int .u32 src, .int .u32 dst, .slice ao5 zo.length co5, .slice a7 (grn hs ha zd.length) c7] hg6 rfl (by rw [HΦ.out]; exact .inr ⟨HF.out, ao5, co5, a7, c7, rfl, ((hO5.but hW6.1 (fun b h e => by omega)).but (putRow_rb (rb := w.heap.size + 1 + 1) _ _) (fun b h e => by omega)).mono (by omega), (((hO8w.later hb9).but hW6.1 (fun b h e => by omega)).but (putRow_rb (rb := w.heap.size + 1 + 1) _ _) (fun b h e => by omega)).mono (by omega)⟩)
            rw [← hV8] at hSt
            clear hV7 hV8 k6 f6
            refine ⟨hSt.1, ?_⟩
            refine anyR_val (Keep.pre _ _ _) 19 rfl (by kernel_rfl) (by kernel_rfl) (by kernel_rfl) (fun _ _ _ _ h => h) rfl ?_; apply Exists.intro; refine ⟨fun w1 hw1 => ?_, ?_⟩; (· (go_simp; rfl)); simp only [Act.put, List.setIfInBounds_toArray, List.set_cons_zero, List.set_cons_succ]
            refine anyR_done (by kernel_rfl) (fun W8 hW8 => ?_)
            obtain ⟨arr, hh8, hP8⟩ := hW8.2.2 hSt.2
            have hw8 := hbel W8 ((hW16.trans hSt.1).trans hW8)
            clear hSt hq hfr hbut
            rw [HΦ.out] at hP8
            rcases hP8 with ⟨hf8, rfl⟩ | ⟨hf8, ao8, co8, ad8, cd8, rfl, hO8, hD8⟩
            · exact absurd HF.out hf8
            · have r8 := block_cell hh8
              go_wp2_with fail
              exact bodyPost_ret (v := .tuple #[.agg #[.int .u8 tos, .int .u16 id, .bool keep, .int .u8 ttl, .int .u8 47, .int .u32 src, .int .u32 dst, .slice ao8 zo.length co8, .slice ad8 (grn hs ha zd.length) cd8], .int .i64 0]) (by simp [results, Tryd.results8, go_sem, r8]) rfl ⟨hw8, .inr ⟨hf8, ao8, co8, ad8, cd8, rfl, hO8.mono (by omega), hD8.mono (by omega)⟩⟩
end Go.Proofs.YtcdeiakeiehaaaaDoor
