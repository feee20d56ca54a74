/- The document's BuildGre. -/
import Derived.Test.YtcdeiakeiehaaaaDoorCX
import Derived.Test.YtcdeiakeiehaaaaDoorCD
namespace Go.Proofs.YtcdeiakeiehaaaaDoor
open Go.RowKit Go.Shelf
set_option maxRecDepth 100000
set_option linter.unusedVariables false
set_option linter.unusedSimpArgs false

/-- A byte of a row stored anew. -/
theorem row_set {W : World} {base : Nat} {v : Value} {ys : List Int} (h : W.ownsRow base 5 1 v ys.length (ys.map (Value.int .u8))) (j : Nat) (hj : j < ys.length) (z : Int) :
    ∃ g cap, v = .slice (some ⟨g, 0, none⟩) ys.length cap ∧ base ≤ g ∧ W.cell? ⟨g, j, none⟩ = some (.int .u8 (ys[j]?.getD 0)) ∧ W.frozen? ⟨g, j, none⟩ = false ∧ (W.setCell ⟨g, j, none⟩ (.int .u8 z)).ownsRow base 5 1 v (ys.set j z).length ((ys.set j z).map (Value.int .u8)) := by
  have hO := Ow.of_row h
  obtain ⟨hn, hr⟩ := h
  rcases hr with ⟨rfl, hn0⟩ | ⟨g, cap, cur, rfl, hg, hh, h1, h2, h3, h4⟩
  · omega
  · obtain ⟨g', e', _, _, hcf, _⟩ := hO.at (by omega)
    simp at e'
    subst e'
    refine ⟨g, cap, rfl, hg, (hcf j hj).1, (hcf j hj).2, by simp, .inr ⟨g, cap, _, by simp, hg, heap_set1 hh j (.int .u8 z), by simpa using h1, h2, by simpa using h3, ?_⟩⟩
    rw [Array.toList_setIfInBounds, List.length_set, List.take_set, h4, List.map_set]

set_option maxHeartbeats 8000000 in
theorem rbuildGre_any (tos id ttl proto src dst cl sq ak : Int) (keep hs ha : Bool) (so sm : Value) (ad : Option Addr) (ld cd : Nat) (zo zd : List Int) (w : World) (hIo : Rd w.heap.size w so zo) (hBd : Mt.By zd) (hIm : Rd w.heap.size w sm zd)
    (h1 : zo.length ≤ 140737488355328) (h2 : 16 + zd.length ≤ 140737488355328) (hcl : 0 ≤ cl ∧ cl ≤ 65535) (hsq : 0 ≤ sq ∧ sq ≤ 4294967295) (hak : 0 ≤ ak ∧ ak ≤ 4294967295) (hg : grf hs ha sq ak = false) :
    Calls Tryd.prog 9 #[.agg #[.int .u8 tos, .int .u16 id, .bool keep, .int .u8 ttl, .int .u8 proto, .int .u32 src, .int .u32 dst, so, .slice ad ld cd], .agg #[.int .u16 cl, .bool hs, .bool ha, .int .u32 sq, .int .u32 ak, sm]] w fun e w' => Below w.heap.size w w' ∧ ((flt zo.length (grn hs ha zd.length) ≠ 0 ∧ e = .returned (.tuple #[.agg #[.int .u8 0, .int .u16 0, .bool false, .int .u8 0, .int .u8 0, .int .u32 0, .int .u32 0, .slice none 0 0, .slice none 0 0], .int .i64 (flt zo.length (grn hs ha zd.length))])) ∨
      (flt zo.length (grn hs ha zd.length) = 0 ∧ ∃ a7 c7 a8 c8, e = .returned (.tuple #[.agg #[.int .u8 tos, .int .u16 id, .bool keep, .int .u8 ttl, .int .u8 47, .int .u32 src, .int .u32 dst, .slice a7 zo.length c7, .slice a8 (grn hs ha zd.length) c8], .int .i64 0]) ∧ Ow w.heap.size w' (.slice a7 zo.length c7) zo ∧ Ow w.heap.size w' (.slice a8 (grn hs ha zd.length) c8) (grb cl hs ha sq ak zd))) := by
  obtain ⟨ao, co, rfl, _, _⟩ := hIo.slice
  obtain ⟨am, cm, rfl, _, _⟩ := hIm.slice
  have hb0 : Below w.heap.size w (((w.alloc (.cells #[.int .u8 tos, .int .u16 id, .bool keep, .int .u8 ttl, .int .u8 proto, .int .u32 src, .int .u32 dst, .slice ao zo.length co, .slice ad ld cd] 26)).alloc (.cells #[.int .u16 cl, .bool hs, .bool ha, .int .u32 sq, .int .u32 ak, .slice am zd.length cm] 30)).alloc (.cells #[.int .u8 0, .int .u16 0, .bool false, .int .u8 0, .int .u8 0, .int .u32 0, .int .u32 0, .slice none 0 0, .slice none 0 0] 26)) := (((Below.refl _ _).alloc (Nat.le_refl _) _).alloc (by simp) _).alloc (by simp; omega) _
  have p0 : (((w.alloc (.cells #[.int .u8 tos, .int .u16 id, .bool keep, .int .u8 ttl, .int .u8 proto, .int .u32 src, .int .u32 dst, .slice ao zo.length co, .slice ad ld cd] 26)).alloc (.cells #[.int .u16 cl, .bool hs, .bool ha, .int .u32 sq, .int .u32 ak, .slice am zd.length cm] 30)).alloc (.cells #[.int .u8 0, .int .u16 0, .bool false, .int .u8 0, .int .u8 0, .int .u32 0, .int .u32 0, .slice none 0 0, .slice none 0 0] 26)).heap[w.heap.size]? = some (.cells #[.int .u8 tos, .int .u16 id, .bool keep, .int .u8 ttl, .int .u8 proto, .int .u32 src, .int .u32 dst, .slice ao zo.length co, .slice ad ld cd] 26) := (Below.heap_alloc _ _ _ (by simp; omega)).trans ((Below.heap_alloc _ _ _ (by simp)).trans (heap_alloc_new w _))
  have m0 : (((w.alloc (.cells #[.int .u8 tos, .int .u16 id, .bool keep, .int .u8 ttl, .int .u8 proto, .int .u32 src, .int .u32 dst, .slice ao zo.length co, .slice ad ld cd] 26)).alloc (.cells #[.int .u16 cl, .bool hs, .bool ha, .int .u32 sq, .int .u32 ak, .slice am zd.length cm] 30)).alloc (.cells #[.int .u8 0, .int .u16 0, .bool false, .int .u8 0, .int .u8 0, .int .u32 0, .int .u32 0, .slice none 0 0, .slice none 0 0] 26)).heap[w.heap.size + 1]? = some (.cells #[.int .u16 cl, .bool hs, .bool ha, .int .u32 sq, .int .u32 ak, .slice am zd.length cm] 30) := by
    have := heap_alloc_new (w.alloc (.cells #[.int .u8 tos, .int .u16 id, .bool keep, .int .u8 ttl, .int .u8 proto, .int .u32 src, .int .u32 dst, .slice ao zo.length co, .slice ad ld cd] 26)) (.cells #[.int .u16 cl, .bool hs, .bool ha, .int .u32 sq, .int .u32 ak, .slice am zd.length cm] 30)
    rw [World.size_alloc] at this
    exact (Below.heap_alloc _ _ _ (by simp)).trans this
  have r0 : (((w.alloc (.cells #[.int .u8 tos, .int .u16 id, .bool keep, .int .u8 ttl, .int .u8 proto, .int .u32 src, .int .u32 dst, .slice ao zo.length co, .slice ad ld cd] 26)).alloc (.cells #[.int .u16 cl, .bool hs, .bool ha, .int .u32 sq, .int .u32 ak, .slice am zd.length cm] 30)).alloc (.cells #[.int .u8 0, .int .u16 0, .bool false, .int .u8 0, .int .u8 0, .int .u32 0, .int .u32 0, .slice none 0 0, .slice none 0 0] 26)).heap[w.heap.size + 1 + 1]? = some (.cells #[.int .u8 0, .int .u16 0, .bool false, .int .u8 0, .int .u8 0, .int .u32 0, .int .u32 0, .slice none 0 0, .slice none 0 0] 26 (0, 0)) := by
    have := heap_alloc_new ((w.alloc (.cells #[.int .u8 tos, .int .u16 id, .bool keep, .int .u8 ttl, .int .u8 proto, .int .u32 src, .int .u32 dst, .slice ao zo.length co, .slice ad ld cd] 26)).alloc (.cells #[.int .u16 cl, .bool hs, .bool ha, .int .u32 sq, .int .u32 ak, .slice am zd.length cm] 30)) (.cells #[.int .u8 0, .int .u16 0, .bool false, .int .u8 0, .int .u8 0, .int .u32 0, .int .u32 0, .slice none 0 0, .slice none 0 0] 26)
    simpa using this
  have P0 := hide p0
  have M0 := hide m0
  have R0 := hide r0
  clear p0 m0 r0
  obtain ⟨gn, HGN⟩ : ∃ gn, Hid (grn hs ha zd.length = gn) := ⟨_, rfl⟩
  go_enter Tryd.func9, Tryd.ntmps9
  go_upto_region 1 with fail
  go_cut [26] (fun z wx => z = .bool false ∧ wx = ((w.alloc (.cells #[.int .u8 tos, .int .u16 id, .bool keep, .int .u8 ttl, .int .u8 proto, .int .u32 src, .int .u32 dst, .slice ao zo.length co, .slice ad ld cd] 26)).alloc (.cells #[.int .u16 cl, .bool hs, .bool ha, .int .u32 sq, .int .u32 ak, .slice am zd.length cm] 30)).alloc (.cells #[.int .u8 0, .int .u16 0, .bool false, .int .u8 0, .int .u8 0, .int .u32 0, .int .u32 0, .slice none 0 0, .slice none 0 0] 26))
  case first =>
    cases hs
    · have hq : (sq != 0) = false := by simp [grf] at hg; simp [hg.1]
      cases ha
      · have hk : (ak != 0) = false := by simp [grf] at hg; simp [hg.2]
        clear hg
        go_wp2_with fail
        go_meet
        case rel => exact ⟨rfl, rfl⟩
      · clear hg
        go_wp2_with fail
        go_meet
        case rel => exact ⟨rfl, rfl⟩
    · cases ha
      · have hk : (ak != 0) = false := by simp [grf] at hg; simp [hg]
        clear hg
        go_wp2_with fail
        go_meet
        case rel => exact ⟨rfl, rfl⟩
      · clear hg
        go_wp2_with fail
        go_meet
        case rel => exact ⟨rfl, rfl⟩
  case rest =>
  obtain ⟨rfl, rfl⟩ := hcut
  clear hg
  go_wp2_with fail
  generalize ((w.alloc (.cells #[.int .u8 tos, .int .u16 id, .bool keep, .int .u8 ttl, .int .u8 proto, .int .u32 src, .int .u32 dst, .slice ao zo.length co, .slice ad ld cd] 26)).alloc (.cells #[.int .u16 cl, .bool hs, .bool ha, .int .u32 sq, .int .u32 ak, .slice am zd.length cm] 30)).alloc (.cells #[.int .u8 0, .int .u16 0, .bool false, .int .u8 0, .int .u8 0, .int .u32 0, .int .u32 0, .slice none 0 0, .slice none 0 0] 26) = w0 at *
  refine (rwith_any tos id ttl proto src dst 47 keep _ _ ad ld cd zo [] w0 ((hIo.below hb0).mono hb0.size) (rd_zero w0) h1 (by simp)).mono ?_
  rintro e w1 ⟨hb1, ⟨hf, rfl⟩ | ⟨hf, a7, c7, a8, c8, rfl, hO1, hD1⟩⟩
  · obtain ⟨f4, f4'⟩ := flt_none zo.length hf gn
    rw [show ([] : List Int).length = 0 from rfl, f4]
    have HF := hide f4'
    clear f4 f4' hf
    have l2 : Later w1 (w1.alloc (.cells #[.int .u8 0, .int .u16 0, .bool false, .int .u8 0, .int .u8 0, .int .u32 0, .int .u32 0, .slice none 0 0, .slice none 0 0] 26)) := (Below.refl _ _).alloc (Nat.le_refl _) _
    have l02 := Later.trans hb1 l2
    have r2 := (l02.block (w.heap.size + 1 + 1) (Array.getElem?_eq_some_iff.1 R0.out).1).trans R0.out
    have hw2 := hb0.trans (l02.mono hb0.size)
    have RR := block_cell r2
    have FF := block_frozen r2
    go_wp2_with fail
    generalize w1.alloc (.cells #[.int .u8 0, .int .u16 0, .bool false, .int .u8 0, .int .u8 0, .int .u32 0, .int .u32 0, .slice none 0 0, .slice none 0 0] 26) = w2 at *
    generalize hV : ((((((((w2.setCell ⟨w.heap.size + 1 + 1, 0, none⟩ _).setCell ⟨w.heap.size + 1 + 1, 1, none⟩ _).setCell ⟨w.heap.size + 1 + 1, 2, none⟩ _).setCell ⟨w.heap.size + 1 + 1, 3, none⟩ _).setCell ⟨w.heap.size + 1 + 1, 4, none⟩ _).setCell ⟨w.heap.size + 1 + 1, 5, none⟩ _).setCell ⟨w.heap.size + 1 + 1, 6, none⟩ _).setCell ⟨w.heap.size + 1 + 1, 7, none⟩ _).setCell ⟨w.heap.size + 1 + 1, 8, none⟩ _ = V8
    have hV9 : V8 = putRow w2 (w.heap.size + 1 + 1) 0 [Value.int .u8 0, .int .u16 0, .bool false, .int .u8 0, .int .u8 0, .int .u32 0, .int .u32 0, .slice none 0 0, .slice none 0 0] := hV.symm
    have hb8 : But (fun b => b = w.heap.size + 1 + 1) w2 V8 := by rw [hV9]; exact putRow_but (E := fun b => b = w.heap.size + 1 + 1) (n := w.heap.size + 1 + 1) rfl _ _ _ _ (But.refl _ _)
    have p8 := putRow_all [Value.int .u8 0, .int .u16 0, .bool false, .int .u8 0, .int .u8 0, .int .u32 0, .int .u32 0, .slice none 0 0, .slice none 0 0] r2 rfl
    rw [← hV9] at p8
    clear hV hV9
    have P8 := block_cell p8
    have hw8 : Below w.heap.size w V8 := (hw2).trans (hb8.below (hw2).size (fun k h e => by omega))
    exact bodyPost_ret (v := .tuple #[.agg #[.int .u8 0, .int .u16 0, .bool false, .int .u8 0, .int .u8 0, .int .u32 0, .int .u32 0, .slice none 0 0, .slice none 0 0], .int .i64 4]) (by simp [results, Tryd.results9, go_sem, P8]) rfl (⟨hw8, .inl ⟨by rw [HGN.out, HF.out]; decide, by rw [HGN.out, HF.out]⟩⟩)
  · have f0 := flt_some zo.length hf gn
    clear hf
    have F0 := hide f0
    clear f0
    have l2 : Later w1 (w1.alloc (.cells #[.int .u8 tos, .int .u16 id, .bool keep, .int .u8 ttl, .int .u8 47, .int .u32 src, .int .u32 dst, .slice a7 zo.length c7, .slice a8 ([] : List Int).length c8] 26)) := (Below.refl _ _).alloc (Nat.le_refl _) _
    have l02 := Later.trans hb1 l2
    have p2 := (l02.block w.heap.size (Array.getElem?_eq_some_iff.1 P0.out).1).trans P0.out
    have m2 := (l02.block (w.heap.size + 1) (Array.getElem?_eq_some_iff.1 M0.out).1).trans M0.out
    have r2 := (l02.block (w.heap.size + 1 + 1) (Array.getElem?_eq_some_iff.1 R0.out).1).trans R0.out
    have hw2 := hb0.trans (l02.mono hb0.size)
    rw [show ([] : List Int).length = 0 from rfl] at *
    go_upto_region 7 with fail
    have hs2 : (w1.alloc (.cells #[.int .u8 tos, .int .u16 id, .bool keep, .int .u8 ttl, .int .u8 47, .int .u32 src, .int .u32 dst, .slice a7 zo.length c7, .slice a8 0 c8] 26)).heap.size = w1.heap.size + 1 := by simp
    generalize w1.alloc (.cells #[.int .u8 tos, .int .u16 id, .bool keep, .int .u8 ttl, .int .u8 47, .int .u32 src, .int .u32 dst, .slice a7 zo.length c7, .slice a8 0 c8] 26) = w2 at *
    have own3 := own_four w2 32 1 136 11
    have l3 : Later w2 (w2.alloc (.cells #[.int .u8 32, .int .u8 1, .int .u8 136, .int .u8 11] 5)) := (Below.refl _ _).alloc (Nat.le_refl _) _
    have hw3 := hw2.trans (l3.mono hw2.size)
    have p3 := (l3.block w.heap.size (Array.getElem?_eq_some_iff.1 p2).1).trans p2
    have m3 := (l3.block (w.heap.size + 1) (Array.getElem?_eq_some_iff.1 m2).1).trans m2
    have r3 := (l3.block (w.heap.size + 1 + 1) (Array.getElem?_eq_some_iff.1 r2).1).trans r2
    clear l02 p2 m2 hw2
    rw [hs2] at own3
    have hsr := (Array.getElem?_eq_some_iff.1 r2).1
    rw [hs2] at hsr
    have hz3 : w1.heap.size + 1 ≤ (w2.alloc (.cells #[.int .u8 32, .int .u8 1, .int .u8 136, .int .u8 11] 5)).heap.size := by have := l3.size; omega
    generalize w2.alloc (.cells #[.int .u8 32, .int .u8 1, .int .u8 136, .int .u8 11] 5) = w3 at *
    have hnb : 0 ≤ ((zd.length : Int) % 65536) ∧ ((zd.length : Int) % 65536) ≤ 65535 := by omega
    obtain ⟨y8, HY8⟩ : ∃ y8 : List Int, Hid (([32, 1, 136, 11] : List Int) ++ [((zd.length : Int) % 65536) / 256, ((zd.length : Int) % 65536) % 256] ++ [cl / 256, cl % 256] = y8) := ⟨_, rfl⟩
    go_cut [8] (fun v wx => wx.ownsRow (w1.heap.size + 1) 5 1 v y8.length (y8.map (Value.int .u8)) ∧ Below (w1.heap.size + 1) w3 wx)
    case first =>
      refine anyT_begin (R := But (fun b => w1.heap.size + 1 ≤ b)) 12 rfl (by kernel_rfl) ?_
      have hd : Later w3 w3.drew := Later.drew w3
      have ownd := row_below own3 hd (Nat.le_refl _)
      have bd : Below (w1.heap.size + 1) w3 w3.drew := hd.mono hz3
      have hz_Wd : w1.heap.size + 1 ≤ w3.drew.heap.size := hz3
      obtain ⟨i0, hi, hz0, hz1, hz2⟩ := info_parts info_u8
      generalize w3.drew = Wd at *
      have ham : ∀ v1, But (fun b => w1.heap.size + 1 ≤ b) Wd v1 → ∀ i, v1.cell? ⟨w.heap.size + 1, i, none⟩ = #[Value.int .u16 cl, .bool hs, .bool ha, .int .u32 sq, .int .u32 ak, .slice am zd.length cm][i]? := fun v1 h => block_cell ((((But.of hd).trans h).block (w.heap.size + 1) (Array.getElem?_eq_some_iff.1 m3).1 (by omega)).trans m3)
      refine anyT_val (But.pre _) 0 rfl (by kernel_rfl) (by kernel_rfl) (by kernel_rfl) (fun _ _ _ _ h => h) rfl ?_; apply Exists.intro; refine ⟨fun v1 hv1 => ?_, ?_⟩; (· (go_simp; rfl)); simp only [Act.put, List.setIfInBounds_toArray, List.set_cons_zero, List.set_cons_succ]
      refine anyT_val (But.pre _) 1 rfl (by kernel_rfl) (by kernel_rfl) (by kernel_rfl) (fun _ _ _ _ h => h) rfl ?_; apply Exists.intro; refine ⟨fun v1 hv1 => ?_, ?_⟩; (· (go_simp; rfl)); simp only [Act.put, List.setIfInBounds_toArray, List.set_cons_zero, List.set_cons_succ]
      refine anyT_val (But.pre _) 2 rfl (by kernel_rfl) (by kernel_rfl) (by kernel_rfl) (fun _ _ _ _ h => h) rfl ?_; apply Exists.intro; refine ⟨fun v1 hv1 => ?_, ?_⟩; (· (go_simp; rfl)); simp only [Act.put, List.setIfInBounds_toArray, List.set_cons_zero, List.set_cons_succ]
      refine anyT_val (But.pre _) 3 rfl (by kernel_rfl) (by kernel_rfl) (by kernel_rfl) (fun _ _ _ _ h => h) rfl ?_; apply Exists.intro; refine ⟨fun v1 hv1 => ?_, ?_⟩; (· (go_simp; rfl)); simp only [Act.put, List.setIfInBounds_toArray, List.set_cons_zero, List.set_cons_succ]
      have HW16 : Hid (IntKind.u16.wrap (zd.length : Int) = ((zd.length : Int) % 65536)) := by show _ = _; simp [IntKind.wrap, IntKind.bits, IntKind.signed]
      refine anyT_val (But.pre _) 4 rfl (by kernel_rfl) (by kernel_rfl) (by kernel_rfl) (fun _ _ _ _ h => h) rfl ⟨.int .u16 ((zd.length : Int) % 65536), fun v1 hv1 => by go_simp; exact HW16.out, ?_⟩
      simp only [Act.put, List.setIfInBounds_toArray, List.set_cons_zero, List.set_cons_succ]
      refine anyT_val (But.pre _) 7 rfl (by kernel_rfl) (by kernel_rfl) (by kernel_rfl) (fun _ _ _ _ h => h) rfl ?_; apply Exists.intro; refine ⟨fun v1 hv1 => ?_, ?_⟩; (· (go_simp; rfl)); simp only [Act.put, List.setIfInBounds_toArray, List.set_cons_zero, List.set_cons_succ]
      refine anyT_val (But.pre _) 8 rfl (by kernel_rfl) (by kernel_rfl) (by kernel_rfl) (fun _ _ _ _ h => h) rfl ?_; apply Exists.intro; refine ⟨fun v1 hv1 => ?_, ?_⟩; (· (go_simp; rfl)); simp only [Act.put, List.setIfInBounds_toArray, List.set_cons_zero, List.set_cons_succ]
      refine anyT_one 5 rfl (by kernel_rfl) rfl ?_
      refine wp_enter 27 #[.int .u16 ((zd.length : Int) % 65536)] (by go_simp) ?_
      refine (two_any ((zd.length : Int) % 65536) hnb Wd).mono ?_
      rintro e w4 ⟨rfl, rfl⟩
      have lX1 : Later Wd (Wd.alloc (.cells #[.int .u8 (((zd.length : Int) % 65536) / 256), .int .u8 (((zd.length : Int) % 65536) % 256)] 5)) := (Below.refl _ _).alloc (Nat.le_refl _) _
      have RX1 := Rd.new2 (((zd.length : Int) % 65536) / 256) (((zd.length : Int) % 65536) % 256) 5 Wd
      have ownX1 := row_below ownd lX1 (Nat.le_refl _)
      have bX1 := bd.trans (lX1.mono hz_Wd)
      have hz_X1 : w1.heap.size + 1 ≤ (Wd.alloc (.cells #[.int .u8 (((zd.length : Int) % 65536) / 256), .int .u8 (((zd.length : Int) % 65536) % 256)] 5)).heap.size := Nat.le_trans hz_Wd lX1.size
      refine ⟨But.of lX1, ?_⟩
      simp only [Act.put, List.setIfInBounds_toArray, List.set_cons_zero, List.set_cons_succ]
      generalize Wd.alloc (.cells #[.int .u8 (((zd.length : Int) % 65536) / 256), .int .u8 (((zd.length : Int) % 65536) % 256)] 5) = X1 at *
      refine anyT_one 6 rfl (by kernel_rfl) rfl ?_
      obtain ⟨vX2, X2, hrunX2, ownX2, hgrX2⟩ := run_app (P := Tryd.prog) X1 24 24 5 (w1.heap.size + 1) i0 Tryd.underlying24 hi hz0 hz1 hz2 _ _ ownX1 _ _ [((zd.length : Int) % 65536) / 256, ((zd.length : Int) % 65536) % 256] RX1 (by simp) hz_X1
      have bX2 := below_app bX1 ownX1 hgrX2 (Nat.le_refl _) hz_X1
      have btX2 : But (fun b => w1.heap.size + 1 ≤ b) X1 X2 := but_app ownX1 hgrX2
      have hz_X2 : w1.heap.size + 1 ≤ X2.heap.size := Nat.le_trans hz_X1 btX2.size
      clear hgrX2
      refine wp_app (.tmp 38) (.tmp 43) 24 rfl _ _ rfl rfl _ X2 hrunX2 ⟨btX2, ?_⟩
      simp only [Act.put, List.setIfInBounds_toArray, List.set_cons_zero, List.set_cons_succ]
      refine anyT_one 9 rfl (by kernel_rfl) rfl ?_
      refine wp_enter 27 #[.int .u16 cl] (by go_simp) ?_
      refine (two_any cl hcl X2).mono ?_
      rintro e w4 ⟨rfl, rfl⟩
      have lX3 : Later X2 (X2.alloc (.cells #[.int .u8 (cl / 256), .int .u8 (cl % 256)] 5)) := (Below.refl _ _).alloc (Nat.le_refl _) _
      have RX3 := Rd.new2 (cl / 256) (cl % 256) 5 X2
      have ownX3 := row_below ownX2 lX3 (Nat.le_refl _)
      have bX3 := bX2.trans (lX3.mono hz_X2)
      have hz_X3 : w1.heap.size + 1 ≤ (X2.alloc (.cells #[.int .u8 (cl / 256), .int .u8 (cl % 256)] 5)).heap.size := Nat.le_trans hz_X2 lX3.size
      refine ⟨But.of lX3, ?_⟩
      simp only [Act.put, List.setIfInBounds_toArray, List.set_cons_zero, List.set_cons_succ]
      generalize X2.alloc (.cells #[.int .u8 (cl / 256), .int .u8 (cl % 256)] 5) = X3 at *
      refine anyT_one 10 rfl (by kernel_rfl) rfl ?_
      obtain ⟨vX4, X4, hrunX4, ownX4, hgrX4⟩ := run_app (P := Tryd.prog) X3 24 24 5 (w1.heap.size + 1) i0 Tryd.underlying24 hi hz0 hz1 hz2 _ _ ownX3 _ _ [cl / 256, cl % 256] RX3 (by simp) hz_X3
      have bX4 := below_app bX3 ownX3 hgrX4 (Nat.le_refl _) hz_X3
      have btX4 : But (fun b => w1.heap.size + 1 ≤ b) X3 X4 := but_app ownX3 hgrX4
      have hz_X4 : w1.heap.size + 1 ≤ X4.heap.size := Nat.le_trans hz_X3 btX4.size
      clear hgrX4
      refine wp_app (.tmp 44) (.tmp 47) 24 rfl _ _ rfl rfl _ X4 hrunX4 ⟨btX4, ?_⟩
      simp only [Act.put, List.setIfInBounds_toArray, List.set_cons_zero, List.set_cons_succ]
      refine anyT_one 11 rfl (by kernel_rfl) rfl ?_
      unfold Oper.wp
      go_simp
      refine ⟨But.refl _ _, ?_⟩
      refine anyT_done (by kernel_rfl) ?_
      rw [HY8.out] at ownX4
      go_wp2_with fail
      go_meet
      case rel => exact ⟨ownX4, bX4⟩
    case rest =>
      obtain ⟨own8, bc8⟩ := hcut
      obtain ⟨i0, hi, hz0, hz1, hz2⟩ := info_parts info_u8
      have hy8 : Hid (y8.length = 8) := by show _ = _; rw [← HY8.out]; rfl
      obtain ⟨g8, cp8, rfl, hgb8, c8, f8, ownS8⟩ := row_set own8 0 (by have := hy8.out; omega) 48
      have i8 : (0 : Int) < y8.length := by have := hy8.out; omega
      have i8' : 0 < y8.length := by have := hy8.out; omega
      have m8 := (bc8.block (w.heap.size + 1) (by omega)).trans m3
      have M8 := block_cell m8
      obtain ⟨y9, HY9⟩ : ∃ y : List Int, Hid ((if hs then y8.set 0 48 ++ [sq / 16777216, sq / 65536 % 256, sq / 256 % 256, sq % 256] else y8) = y) := ⟨_, rfl⟩
      have hy9 : Hid (y9.length = 8 + 0 + (if hs then 4 else 0)) := by show _ = _; rw [← HY9.out]; have := hy8.out; cases hs <;> simp <;> omega
      go_upto_if 50 with fail
      go_cut [8] (fun v wx => wx.ownsRow (w1.heap.size + 1) 5 1 v y9.length (y9.map (Value.int .u8)) ∧ Below (w1.heap.size + 1) w3 wx)
      case first =>
        cases hs
        · have hy : y9 = y8 := HY9.out.symm
          go_wp2_with fail
          go_meet
          case rel => exact ⟨by rw [hy]; exact own8, bc8⟩
        · have hy : y9 = y8.set 0 48 ++ [sq / 16777216, sq / 65536 % 256, sq / 256 % 256, sq % 256] := HY9.out.symm
          have b5 : Below (w1.heap.size + 1) w3 (wc.setCell ⟨g8, 0, none⟩ (.int .u8 48)) := bc8.setCell (p := ⟨g8, 0, none⟩) hgb8 _
          have m5 := (b5.block (w.heap.size + 1) (by omega)).trans m3
          have M5 := block_cell m5
          go_wp2_with fail
          have hz5 : w1.heap.size + 1 ≤ (wc.setCell ⟨g8, 0, none⟩ (.int .u8 48)).heap.size := Nat.le_trans hz3 b5.size
          generalize wc.setCell ⟨g8, 0, none⟩ (.int .u8 48) = w5 at *
          refine (four_any sq hsq w5).mono ?_
          rintro e w6 ⟨rfl, rfl⟩
          have l6 : Later w5 (w5.alloc (.cells #[.int .u8 (sq / 16777216), .int .u8 (sq / 65536 % 256), .int .u8 (sq / 256 % 256), .int .u8 (sq % 256)] 5)) := (Below.refl _ _).alloc (Nat.le_refl _) _
          have R6 := Rd.new4 (sq / 16777216) (sq / 65536 % 256) (sq / 256 % 256) (sq % 256) 5 w5
          have own6 := row_below ownS8 l6 (Nat.le_refl _)
          have b6 := b5.trans (l6.mono hz5)
          have hz6 := Nat.le_trans hz5 l6.size
          rw [List.length_set] at own6
          have own6' : (w5.alloc (.cells #[.int .u8 (sq / 16777216), .int .u8 (sq / 65536 % 256), .int .u8 (sq / 256 % 256), .int .u8 (sq % 256)] 5)).ownsRow (w1.heap.size + 1) 5 1 (.slice (some ⟨g8, 0, none⟩) y8.length cp8) (y8.set 0 48).length ((y8.set 0 48).map (Value.int .u8)) := by rw [List.length_set]; exact own6
          clear M5 M8 c8 f8
          go_wp2_with (at_builtin; refine wpList_app _ rfl (.tmp 53) (.tmp 56) 24 rfl (w1.heap.size + 1) 5 i0 Tryd.underlying24 hi hz0 hz1 hz2 _ _ rfl own6' _ _ [sq / 16777216, sq / 65536 % 256, sq / 256 % 256, sq % 256] rfl R6 (by have := hy8.out; simp; omega) hz6 ?_; intro v7 w7 own7 hg7; have b7 := below_app b6 own6' hg7 (Nat.le_refl _) hz6; clear hg7)
          go_meet
          case rel => exact ⟨by rw [hy]; exact own7, b7⟩
      case rest =>
        obtain ⟨own8, bc8⟩ := hcut
        obtain ⟨g9, cp9, rfl, hgb9, c9, f9, ownS9⟩ := row_set own8 1 (by have := hy9.out; omega) 129
        have i9 : (1 : Int) < y9.length := by have := hy9.out; omega
        have i9' : 1 < y9.length := by have := hy9.out; omega
        have m9 := (bc8.block (w.heap.size + 1) (by omega)).trans m3
        have M9 := block_cell m9
        obtain ⟨y10, HY10⟩ : ∃ y : List Int, Hid ((if ha then y9.set 1 129 ++ [ak / 16777216, ak / 65536 % 256, ak / 256 % 256, ak % 256] else y9) = y) := ⟨_, rfl⟩
        have hy10 : Hid (y10.length = 8 + (if hs then 4 else 0) + (if ha then 4 else 0)) := by show _ = _; rw [← HY10.out]; have := hy9.out; cases ha <;> simp <;> omega
        go_upto_if 59 with fail
        go_cut [8] (fun v wx => wx.ownsRow (w1.heap.size + 1) 5 1 v y10.length (y10.map (Value.int .u8)) ∧ Below (w1.heap.size + 1) w3 wx)
        case first =>
          cases ha
          · have hy : y10 = y9 := HY10.out.symm
            go_wp2_with fail
            go_meet
            case rel => exact ⟨by rw [hy]; exact own8, bc8⟩
          · have hy : y10 = y9.set 1 129 ++ [ak / 16777216, ak / 65536 % 256, ak / 256 % 256, ak % 256] := HY10.out.symm
            have b5 : Below (w1.heap.size + 1) w3 (wc.setCell ⟨g9, 1, none⟩ (.int .u8 129)) := bc8.setCell (p := ⟨g9, 1, none⟩) hgb9 _
            have m5 := (b5.block (w.heap.size + 1) (by omega)).trans m3
            have M5 := block_cell m5
            go_wp2_with fail
            have hz5 : w1.heap.size + 1 ≤ (wc.setCell ⟨g9, 1, none⟩ (.int .u8 129)).heap.size := Nat.le_trans hz3 b5.size
            generalize wc.setCell ⟨g9, 1, none⟩ (.int .u8 129) = w5 at *
            refine (four_any ak hak w5).mono ?_
            rintro e w6 ⟨rfl, rfl⟩
            have l6 : Later w5 (w5.alloc (.cells #[.int .u8 (ak / 16777216), .int .u8 (ak / 65536 % 256), .int .u8 (ak / 256 % 256), .int .u8 (ak % 256)] 5)) := (Below.refl _ _).alloc (Nat.le_refl _) _
            have R6 := Rd.new4 (ak / 16777216) (ak / 65536 % 256) (ak / 256 % 256) (ak % 256) 5 w5
            have own6 := row_below ownS9 l6 (Nat.le_refl _)
            have b6 := b5.trans (l6.mono hz5)
            have hz6 := Nat.le_trans hz5 l6.size
            rw [List.length_set] at own6
            have own6' : (w5.alloc (.cells #[.int .u8 (ak / 16777216), .int .u8 (ak / 65536 % 256), .int .u8 (ak / 256 % 256), .int .u8 (ak % 256)] 5)).ownsRow (w1.heap.size + 1) 5 1 (.slice (some ⟨g9, 0, none⟩) y9.length cp9) (y9.set 1 129).length ((y9.set 1 129).map (Value.int .u8)) := by rw [List.length_set]; exact own6
            clear M5 M9 c9 f9
            go_wp2_with (at_builtin; refine wpList_app _ rfl (.tmp 62) (.tmp 65) 24 rfl (w1.heap.size + 1) 5 i0 Tryd.underlying24 hi hz0 hz1 hz2 _ _ rfl own6' _ _ [ak / 16777216, ak / 65536 % 256, ak / 256 % 256, ak % 256] rfl R6 (by have := hy9.out; simp; split at this <;> omega) hz6 ?_; intro v7 w7 own7 hg7; have b7 := below_app b6 own6' hg7 (Nat.le_refl _) hz6; clear hg7)
            go_meet
            case rel => exact ⟨by rw [hy]; exact own7, b7⟩
        case rest =>
          obtain ⟨own8, bc8⟩ := hcut
          have hO8 := Ow.of_row own8
          obtain ⟨a10, c10, rfl, _, _⟩ := hO8.slice
          have hgn : Hid (gn = y10.length + zd.length) := by
            show _ = _
            rw [← HGN.out, hy10.out]
            unfold grn
            omega
          have hgr : Hid (y10 ++ zd = grb cl hs ha sq ak zd) := by
            show _ = _
            rw [← HY10.out, ← HY9.out, ← HY8.out]
            cases hs <;> cases ha <;> simp [grb, num4] <;> omega
          have hyb : y10.length ≤ 16 := by have := hy10.out; split at this <;> split at this <;> omega
          have p10 := (bc8.block w.heap.size (by omega)).trans p3
          have m10 := (bc8.block (w.heap.size + 1) (by omega)).trans m3
          have r10 := (bc8.block (w.heap.size + 1 + 1) (by omega)).trans r3
          have hw10 := hw3.trans (bc8.mono (by omega))
          have P10 := block_cell p10
          have M10 := block_cell m10
          by_cases c3 : 65535 < 20 + zo.length + gn
          · have t3 : (65535 : Int) < 20 + zo.length + y10.length + zd.length := by have := hgn.out; omega
            have HF : Hid (flt zo.length gn = 8) := by show _ = _; rw [F0.out, if_pos c3]
            have RR := block_cell r10
            have FF := block_frozen r10
            clear c3
            go_wp2_with fail
            generalize hV : ((((((((wc.setCell ⟨w.heap.size + 1 + 1, 0, none⟩ _).setCell ⟨w.heap.size + 1 + 1, 1, none⟩ _).setCell ⟨w.heap.size + 1 + 1, 2, none⟩ _).setCell ⟨w.heap.size + 1 + 1, 3, none⟩ _).setCell ⟨w.heap.size + 1 + 1, 4, none⟩ _).setCell ⟨w.heap.size + 1 + 1, 5, none⟩ _).setCell ⟨w.heap.size + 1 + 1, 6, none⟩ _).setCell ⟨w.heap.size + 1 + 1, 7, none⟩ _).setCell ⟨w.heap.size + 1 + 1, 8, none⟩ _ = V8
            have hV9 : V8 = putRow wc (w.heap.size + 1 + 1) 0 [Value.int .u8 0, .int .u16 0, .bool false, .int .u8 0, .int .u8 0, .int .u32 0, .int .u32 0, .slice none 0 0, .slice none 0 0] := hV.symm
            have hb8 : But (fun b => b = w.heap.size + 1 + 1) wc V8 := by rw [hV9]; exact putRow_but (E := fun b => b = w.heap.size + 1 + 1) (n := w.heap.size + 1 + 1) rfl _ _ _ _ (But.refl _ _)
            have p8 := putRow_all [Value.int .u8 0, .int .u16 0, .bool false, .int .u8 0, .int .u8 0, .int .u32 0, .int .u32 0, .slice none 0 0, .slice none 0 0] r10 rfl
            rw [← hV9] at p8
            clear hV hV9
            have P8 := block_cell p8
            have hw8 : Below w.heap.size w V8 := (hw10).trans (hb8.below (hw10).size (fun k h e => by omega))
            exact bodyPost_ret (v := .tuple #[.agg #[.int .u8 0, .int .u16 0, .bool false, .int .u8 0, .int .u8 0, .int .u32 0, .int .u32 0, .slice none 0 0, .slice none 0 0], .int .i64 8]) (by simp [results, Tryd.results9, go_sem, P8]) rfl (⟨hw8, .inl ⟨by rw [HGN.out, HF.out]; decide, by rw [HGN.out, HF.out]⟩⟩)
          · have t3 : ¬ (65535 : Int) < 20 + zo.length + y10.length + zd.length := by have := hgn.out; omega
            have HF : Hid (flt zo.length gn = 0) := by show _ = _; rw [F0.out, if_neg c3]
            clear c3
            go_upto_region 16 with fail
            clear P10 M10
            refine anyT_begin (R := But (fun b => b = w.heap.size + 1 + 1 ∨ w1.heap.size + 1 ≤ b)) 10 rfl (by kernel_rfl) ?_
            have hd : Later wc wc.drew := Later.drew wc
            have p11 := (hd.block w.heap.size (Array.getElem?_eq_some_iff.1 p10).1).trans p10
            have m11 := (hd.block (w.heap.size + 1) (Array.getElem?_eq_some_iff.1 m10).1).trans m10
            have r11 := (hd.block (w.heap.size + 1 + 1) (Array.getElem?_eq_some_iff.1 r10).1).trans r10
            have hw11 := hw10.trans (hd.mono hw10.size)
            have own11 := row_below own8 hd (Nat.le_refl _)
            have hz11 : w1.heap.size + 1 ≤ wc.drew.heap.size := Nat.le_trans hz3 (bc8.size)
            generalize wc.drew = Wd at *
            have hap : ∀ v1, But (fun b => b = w.heap.size + 1 + 1 ∨ w1.heap.size + 1 ≤ b) Wd v1 → ∀ i, v1.cell? ⟨w.heap.size, i, none⟩ = #[Value.int .u8 tos, .int .u16 id, .bool keep, .int .u8 ttl, .int .u8 proto, .int .u32 src, .int .u32 dst, .slice ao zo.length co, .slice ad ld cd][i]? := fun v1 h => block_cell ((h.block w.heap.size (Array.getElem?_eq_some_iff.1 p11).1 (by omega)).trans p11)
            have ham : ∀ v1, But (fun b => b = w.heap.size + 1 + 1 ∨ w1.heap.size + 1 ≤ b) Wd v1 → ∀ i, v1.cell? ⟨w.heap.size + 1, i, none⟩ = #[Value.int .u16 cl, .bool hs, .bool ha, .int .u32 sq, .int .u32 ak, .slice am zd.length cm][i]? := fun v1 h => block_cell ((h.block (w.heap.size + 1) (Array.getElem?_eq_some_iff.1 m11).1 (by omega)).trans m11)
            refine anyT_val (But.pre _) 0 rfl (by kernel_rfl) (by kernel_rfl) (by kernel_rfl) (fun _ _ _ _ h => h) rfl ?_; apply Exists.intro; refine ⟨fun v1 hv1 => ?_, ?_⟩; (· (go_simp; rfl)); simp only [Act.put, List.setIfInBounds_toArray, List.set_cons_zero, List.set_cons_succ]
            refine anyT_val (But.pre _) 1 rfl (by kernel_rfl) (by kernel_rfl) (by kernel_rfl) (fun _ _ _ _ h => h) rfl ?_; apply Exists.intro; refine ⟨fun v1 hv1 => ?_, ?_⟩; (· (go_simp; rfl)); simp only [Act.put, List.setIfInBounds_toArray, List.set_cons_zero, List.set_cons_succ]
            refine anyT_val (But.pre _) 2 rfl (by kernel_rfl) (by kernel_rfl) (by kernel_rfl) (fun _ _ _ _ h => h) rfl ?_; apply Exists.intro; refine ⟨fun v1 hv1 => ?_, ?_⟩; (· (go_simp; rfl)); simp only [Act.put, List.setIfInBounds_toArray, List.set_cons_zero, List.set_cons_succ]
            refine anyT_val (But.pre _) 3 rfl (by kernel_rfl) (by kernel_rfl) (by kernel_rfl) (fun _ _ _ _ h => h) rfl ?_; apply Exists.intro; refine ⟨fun v1 hv1 => ?_, ?_⟩; (· (go_simp; rfl)); simp only [Act.put, List.setIfInBounds_toArray, List.set_cons_zero, List.set_cons_succ]
            refine anyT_one 4 rfl (by kernel_rfl) rfl ?_
            obtain ⟨v12, W12, hrun12, own12, hgr12⟩ := run_app (P := Tryd.prog) Wd 24 24 5 (w1.heap.size + 1) i0 Tryd.underlying24 hi hz0 hz1 hz2 _ _ own11 w.heap.size _ zd (hIm.below hw11) (by omega) hz11
            have b12 : Below (w1.heap.size + 1) Wd W12 := below_app (Below.refl _ _) own11 hgr12 (Nat.le_refl _) hz11
            have bt12 := but_app own11 hgr12
            clear hgr12
            refine wp_app (.tmp 81) (.tmp 83) 24 rfl _ _ rfl rfl _ W12 hrun12 ⟨⟨bt12.os, bt12.tape, bt12.output, bt12.size, fun i hi he => bt12.block i hi (fun h => he (.inr h))⟩, ?_⟩
            simp only [Act.put, List.setIfInBounds_toArray, List.set_cons_zero, List.set_cons_succ]
            have hO12 := Ow.of_row own12
            clear own12
            have hl12 : Hid ((y10 ++ zd).length = gn) := by show _ = _; rw [List.length_append, hgn.out]
            obtain ⟨a12, c12, rfl, _, _⟩ := hO12.slice
            have hw12 := hw11.trans (b12.mono (by omega))
            have r12 := (b12.block (w.heap.size + 1 + 1) (by omega)).trans r11
            refine anyT_one 5 rfl (by kernel_rfl) rfl ?_
            refine wp_enter 23 #[.agg #[.int .u8 tos, .int .u16 id, .bool keep, .int .u8 ttl, .int .u8 proto, .int .u32 src, .int .u32 dst, .slice ao zo.length co, .slice ad ld cd], .int .u8 47, .slice a12 (y10 ++ zd).length c12] (by go_simp) ?_
            refine (rwith_any tos id ttl proto src dst 47 keep _ _ ad ld cd zo (y10 ++ zd) W12 ((hIo.below hw12).mono hw12.size) hO12.rd h1 (by simp; omega)).mono ?_
            rw [hl12.out, HF.out]
            rintro e W8 ⟨hb8, ⟨hx, _⟩ | ⟨_, a9, c9, ad9, cd9, rfl, hO9, hD9⟩⟩
            case inl => exact absurd rfl hx
            have l8 : Later W12 W8 := hb8
            refine ⟨But.of l8, ?_⟩
            simp only [Act.put, List.setIfInBounds_toArray, List.set_cons_zero, List.set_cons_succ]
            refine anyT_val (But.pre _) 6 rfl (by kernel_rfl) (by kernel_rfl) (by kernel_rfl) (fun _ _ _ _ h => h) rfl ?_; apply Exists.intro; refine ⟨fun v1 hv1 => ?_, ?_⟩; (· (go_simp; rfl)); simp only [Act.put, List.setIfInBounds_toArray, List.set_cons_zero, List.set_cons_succ]
            refine anyT_val (But.pre _) 7 rfl (by kernel_rfl) (by kernel_rfl) (by kernel_rfl) (fun _ _ _ _ h => h) rfl ?_; apply Exists.intro; refine ⟨fun v1 hv1 => ?_, ?_⟩; (· (go_simp; rfl)); simp only [Act.put, List.setIfInBounds_toArray, List.set_cons_zero, List.set_cons_succ]
            refine anyT_one 8 rfl (by kernel_rfl) rfl ?_
            have r8 := (l8.block (w.heap.size + 1 + 1) (Array.getElem?_eq_some_iff.1 r12).1).trans r12
            have hw8' := hw12.trans (l8.mono hw12.size)
            have k8 := block_cell r8
            have f8 : ∀ j, W8.frozen? ⟨w.heap.size + 1 + 1, j, none⟩ = false := block_frozen r8
            unfold Oper.wp
            go_simp
            generalize hV7 : ((((((((W8.setCell ⟨w.heap.size + 1 + 1, 0, none⟩ _).setCell ⟨w.heap.size + 1 + 1, 1, none⟩ _).setCell ⟨w.heap.size + 1 + 1, 2, none⟩ _).setCell ⟨w.heap.size + 1 + 1, 3, none⟩ _).setCell ⟨w.heap.size + 1 + 1, 4, none⟩ _).setCell ⟨w.heap.size + 1 + 1, 5, none⟩ _).setCell ⟨w.heap.size + 1 + 1, 6, none⟩ _).setCell ⟨w.heap.size + 1 + 1, 7, none⟩ _).setCell ⟨w.heap.size + 1 + 1, 8, none⟩ _ = V7
            have hV8 : V7 = putRow W8 (w.heap.size + 1 + 1) 0 [.int .u8 tos, .int .u16 id, .bool keep, .int .u8 ttl, .int .u8 47, .int .u32 src, .int .u32 dst, .slice a9 zo.length c9, .slice ad9 gn cd9] := hV7.symm
            have hbV : But (fun b => b = w.heap.size + 1 + 1) W8 V7 := by rw [hV8]; exact putRow_rb _ _
            have pV := putRow_all [Value.int .u8 tos, .int .u16 id, .bool keep, .int .u8 ttl, .int .u8 47, .int .u32 src, .int .u32 dst, .slice a9 zo.length c9, .slice ad9 gn cd9] r8 rfl
            rw [← hV8] at pV
            clear hV7 hV8 k8 f8
            refine ⟨⟨hbV.os, hbV.tape, hbV.output, hbV.size, fun i hi he => hbV.block i hi (fun h => he (.inl h))⟩, ?_⟩
            refine anyT_one 9 rfl (by kernel_rfl) rfl ?_
            unfold Oper.wp
            go_simp
            refine ⟨But.refl _ _, ?_⟩
            refine anyT_done (by kernel_rfl) ?_
            have PV := block_cell pV
            have hwV : Below w.heap.size w V7 := hw8'.trans (hbV.below hw8'.size (fun k hk e => by omega))
            go_wp2_with fail
            exact bodyPost_ret (v := .tuple #[.agg #[.int .u8 tos, .int .u16 id, .bool keep, .int .u8 ttl, .int .u8 47, .int .u32 src, .int .u32 dst, .slice a9 zo.length c9, .slice ad9 gn cd9], .int .i64 0]) (by simp [results, Tryd.results9, go_sem, PV]) rfl ⟨hwV, .inr ⟨by rw [HGN.out]; exact HF.out, a9, c9, ad9, cd9, by rw [HGN.out], (hO9.apart r8 (by decide) hbV).mono hw12.size, by rw [HGN.out, ← hgr.out]; exact (hD9.apart r8 (by decide) hbV).mono hw12.size⟩⟩
end Go.Proofs.YtcdeiakeiehaaaaDoor
