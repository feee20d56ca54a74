/- The document's With: a packet with other data, of its own. -/
import Derived.Test.YtcdeiakeiehaaaaDoorRt
import Derived.Test.YtcdeiakeiehaaaaDoorCB
namespace Go.Proofs.YtcdeiakeiehaaaaDoor
open Go.RowKit Go.Shelf
set_option maxRecDepth 100000
set_option linter.unusedVariables false
set_option linter.unusedSimpArgs false

/-- Bytes of one's own stay where another block turns that holds no bytes. -/
theorem Ow.apart {base mb : Nat} {W W' : World} {v : Value} {zs : List Int} {cur : Array Value} {t : TypeId} (h : Ow base W v zs) (hm : W.heap[mb]? = some (.cells cur t (0, 0))) (ht : t ≠ 5) (hb : But (fun b => b = mb) W W') : Ow base W' v zs := by
  rcases h with h | ⟨g, cap, c, h1, h2, h3, h4, h5, h6, h7⟩
  · exact .inl h
  · refine .inr ⟨g, cap, c, h1, h2, h3, h4, h5, (hb.block g (Array.getElem?_eq_some_iff.1 h6).1 (fun e => ?_)).trans h6, h7⟩
    subst e
    rw [hm] at h6
    simp at h6
    exact ht h6.2

set_option maxHeartbeats 8000000 in
theorem rwith_any (tos id ttl proto src dst pr : Int) (keep : Bool) (so sx : Value) (ad : Option Addr) (ld cd : Nat) (zo zx : List Int) (w : World) (hIo : Rd w.heap.size w so zo) (hIx : Rd w.heap.size w sx zx) (h1 : zo.length ≤ 140737488355328) (h2 : zx.length ≤ 140737488355328) :
    Calls Tryd.prog 23 #[.agg #[.int .u8 tos, .int .u16 id, .bool keep, .int .u8 ttl, .int .u8 proto, .int .u32 src, .int .u32 dst, so, .slice ad ld cd], .int .u8 pr, sx] w fun e w' => Below w.heap.size w w' ∧ ((flt zo.length zx.length ≠ 0 ∧ e = .returned (.tuple #[.agg #[.int .u8 0, .int .u16 0, .bool false, .int .u8 0, .int .u8 0, .int .u32 0, .int .u32 0, .slice none 0 0, .slice none 0 0], .int .i64 (flt zo.length zx.length)])) ∨
      (flt zo.length zx.length = 0 ∧ ∃ a7 c7 a8 c8, e = .returned (.tuple #[.agg #[.int .u8 tos, .int .u16 id, .bool keep, .int .u8 ttl, .int .u8 pr, .int .u32 src, .int .u32 dst, .slice a7 zo.length c7, .slice a8 zx.length c8], .int .i64 0]) ∧ Ow w.heap.size w' (.slice a7 zo.length c7) zo ∧ Ow w.heap.size w' (.slice a8 zx.length c8) zx)) := by
  obtain ⟨ao, co, rfl, _, _⟩ := hIo.slice
  obtain ⟨ax, cx, rfl, _, _⟩ := hIx.slice
  have hb0 : Below w.heap.size w ((w.alloc (.cells #[.int .u8 tos, .int .u16 id, .bool keep, .int .u8 ttl, .int .u8 proto, .int .u32 src, .int .u32 dst, .slice ao zo.length co, .slice ad ld cd] 26)).alloc (.cells #[.int .u8 0, .int .u16 0, .bool false, .int .u8 0, .int .u8 0, .int .u32 0, .int .u32 0, .slice none 0 0, .slice none 0 0] 26)) := ((Below.refl _ _).alloc (Nat.le_refl _) _).alloc (by simp) _
  by_cases c1 : 40 < zo.length
  · have t1 : (40 : Int) < zo.length := by omega
    have HF : Hid (flt zo.length zx.length = 4) := by show _ = _; unfold flt; rw [if_pos (.inl c1)]
    go_enter Tryd.func23, Tryd.ntmps23
    go_wp2_with fail
    exact bodyPost_ret (v := .tuple #[.agg #[.int .u8 0, .int .u16 0, .bool false, .int .u8 0, .int .u8 0, .int .u32 0, .int .u32 0, .slice none 0 0, .slice none 0 0], .int .i64 4]) (by simp [results, Tryd.results23, go_sem]) rfl ⟨hb0, .inl ⟨by rw [HF.out]; decide, by rw [HF.out]⟩⟩
  · have t1 : ¬ (40 : Int) < zo.length := by omega
    by_cases c2 : zo.length % 4 = 0
    · have t2 : ((zo.length : Int) % 4 != 0) = false := by simp; omega
      by_cases c3 : 65535 < 20 + zo.length + zx.length
      · have t3 : (65535 : Int) < 20 + zo.length + zx.length := by omega
        have HF : Hid (flt zo.length zx.length = 8) := by show _ = _; unfold flt; rw [if_neg (by omega), if_pos c3]
        go_enter Tryd.func23, Tryd.ntmps23
        go_wp2_with fail
        exact bodyPost_ret (v := .tuple #[.agg #[.int .u8 0, .int .u16 0, .bool false, .int .u8 0, .int .u8 0, .int .u32 0, .int .u32 0, .slice none 0 0, .slice none 0 0], .int .i64 8]) (by simp [results, Tryd.results23, go_sem]) rfl ⟨hb0, .inl ⟨by rw [HF.out]; decide, by rw [HF.out]⟩⟩
      · have t3 : ¬ (65535 : Int) < 20 + zo.length + zx.length := by omega
        have HF : Hid (flt zo.length zx.length = 0) := by show _ = _; unfold flt; rw [if_neg (by omega), if_neg c3]
        go_enter Tryd.func23, Tryd.ntmps23
        obtain ⟨i0, hi, hz0, hz1, hz2⟩ := info_parts info_u8
        go_upto_region 7 with fail
        have p1 : (((w.alloc (.cells #[.int .u8 tos, .int .u16 id, .bool keep, .int .u8 ttl, .int .u8 proto, .int .u32 src, .int .u32 dst, .slice ao zo.length co, .slice ad ld cd] 26)).alloc (.cells #[.int .u8 0, .int .u16 0, .bool false, .int .u8 0, .int .u8 0, .int .u32 0, .int .u32 0, .slice none 0 0, .slice none 0 0] 26)).alloc (.cells #[.int .u8 tos, .int .u16 id, .bool keep, .int .u8 ttl, .int .u8 pr, .int .u32 src, .int .u32 dst, .slice ao zo.length co, .slice ad ld cd] 26)).heap[w.heap.size]? = some (.cells #[.int .u8 tos, .int .u16 id, .bool keep, .int .u8 ttl, .int .u8 proto, .int .u32 src, .int .u32 dst, .slice ao zo.length co, .slice ad ld cd] 26) := (Below.heap_alloc _ _ _ (by simp; omega)).trans ((Below.heap_alloc _ _ _ (by simp)).trans (heap_alloc_new w _))
        have r1 : (((w.alloc (.cells #[.int .u8 tos, .int .u16 id, .bool keep, .int .u8 ttl, .int .u8 proto, .int .u32 src, .int .u32 dst, .slice ao zo.length co, .slice ad ld cd] 26)).alloc (.cells #[.int .u8 0, .int .u16 0, .bool false, .int .u8 0, .int .u8 0, .int .u32 0, .int .u32 0, .slice none 0 0, .slice none 0 0] 26)).alloc (.cells #[.int .u8 tos, .int .u16 id, .bool keep, .int .u8 ttl, .int .u8 pr, .int .u32 src, .int .u32 dst, .slice ao zo.length co, .slice ad ld cd] 26)).heap[w.heap.size + 1]? = some (.cells #[.int .u8 0, .int .u16 0, .bool false, .int .u8 0, .int .u8 0, .int .u32 0, .int .u32 0, .slice none 0 0, .slice none 0 0] 26 (0, 0)) := by
          have := heap_alloc_new (w.alloc (.cells #[.int .u8 tos, .int .u16 id, .bool keep, .int .u8 ttl, .int .u8 proto, .int .u32 src, .int .u32 dst, .slice ao zo.length co, .slice ad ld cd] 26)) (.cells #[.int .u8 0, .int .u16 0, .bool false, .int .u8 0, .int .u8 0, .int .u32 0, .int .u32 0, .slice none 0 0, .slice none 0 0] 26)
          rw [World.size_alloc] at this
          exact (Below.heap_alloc _ _ _ (by simp)).trans this
        have qq : (((w.alloc (.cells #[.int .u8 tos, .int .u16 id, .bool keep, .int .u8 ttl, .int .u8 proto, .int .u32 src, .int .u32 dst, .slice ao zo.length co, .slice ad ld cd] 26)).alloc (.cells #[.int .u8 0, .int .u16 0, .bool false, .int .u8 0, .int .u8 0, .int .u32 0, .int .u32 0, .slice none 0 0, .slice none 0 0] 26)).alloc (.cells #[.int .u8 tos, .int .u16 id, .bool keep, .int .u8 ttl, .int .u8 pr, .int .u32 src, .int .u32 dst, .slice ao zo.length co, .slice ad ld cd] 26)).heap[w.heap.size + 1 + 1]? = some (.cells #[.int .u8 tos, .int .u16 id, .bool keep, .int .u8 ttl, .int .u8 pr, .int .u32 src, .int .u32 dst, .slice ao zo.length co, .slice ad ld cd] 26) := by
          have := heap_alloc_new ((w.alloc (.cells #[.int .u8 tos, .int .u16 id, .bool keep, .int .u8 ttl, .int .u8 proto, .int .u32 src, .int .u32 dst, .slice ao zo.length co, .slice ad ld cd] 26)).alloc (.cells #[.int .u8 0, .int .u16 0, .bool false, .int .u8 0, .int .u8 0, .int .u32 0, .int .u32 0, .slice none 0 0, .slice none 0 0] 26)) (.cells #[.int .u8 tos, .int .u16 id, .bool keep, .int .u8 ttl, .int .u8 pr, .int .u32 src, .int .u32 dst, .slice ao zo.length co, .slice ad ld cd] 26)
          simpa using this
        have hw1 : Below w.heap.size w (((w.alloc (.cells #[.int .u8 tos, .int .u16 id, .bool keep, .int .u8 ttl, .int .u8 proto, .int .u32 src, .int .u32 dst, .slice ao zo.length co, .slice ad ld cd] 26)).alloc (.cells #[.int .u8 0, .int .u16 0, .bool false, .int .u8 0, .int .u8 0, .int .u32 0, .int .u32 0, .slice none 0 0, .slice none 0 0] 26)).alloc (.cells #[.int .u8 tos, .int .u16 id, .bool keep, .int .u8 ttl, .int .u8 pr, .int .u32 src, .int .u32 dst, .slice ao zo.length co, .slice ad ld cd] 26)) := hb0.alloc (by simp; omega) _
        generalize ((w.alloc (.cells #[.int .u8 tos, .int .u16 id, .bool keep, .int .u8 ttl, .int .u8 proto, .int .u32 src, .int .u32 dst, .slice ao zo.length co, .slice ad ld cd] 26)).alloc (.cells #[.int .u8 0, .int .u16 0, .bool false, .int .u8 0, .int .u8 0, .int .u32 0, .int .u32 0, .slice none 0 0, .slice none 0 0] 26)).alloc (.cells #[.int .u8 tos, .int .u16 id, .bool keep, .int .u8 ttl, .int .u8 pr, .int .u32 src, .int .u32 dst, .slice ao zo.length co, .slice ad ld cd] 26) = W1 at *
        have hs1 : w.heap.size + 1 + 1 < W1.heap.size := (Array.getElem?_eq_some_iff.1 qq).1
        clear t1 t2 t3 c1 c2
        have P1 := block_cell (((Below.refl W1.heap.size W1).alloc (Nat.le_refl _) (.cells #[] 5)).block w.heap.size (by omega) |>.trans p1)
        have la2 : Below W1.heap.size W1 (W1.alloc (.cells #[] 5)) := (Below.refl _ _).alloc (Nat.le_refl _) _
        have ra2 : Rd W1.heap.size (W1.alloc (.cells #[] 5)) _ zo := ((hIo.below hw1).mono hw1.size).below la2
        go_upto_region 8 with (at_builtin; refine wpList_app _ rfl (.tmp 33) (.tmp 35) 24 rfl W1.heap.size 5 i0 Tryd.underlying24 hi hz0 hz1 hz2 _ [] rfl (own_empty W1 _) W1.heap.size _ zo rfl ra2 (by simp; omega) (by simp) ?_; intro v2 w2 ho2 hg2; have hb2 := below_app la2 (own_empty W1 _) hg2 (Nat.le_refl _) la2.size; clear hg2; simp only [List.nil_append] at ho2; have hO2 := Ow.of_row ho2; clear ho2; obtain ⟨a2, c2, rfl, hp2, hm2⟩ := hO2.slice; have q2 := (hb2.block (w.heap.size + 1 + 1) (Array.getElem?_eq_some_iff.1 qq).1).trans qq; have Q2 := block_cell q2; have F2 := block_frozen q2)
        have b2 : But (fun b => b = w.heap.size + 1 + 1) w2 (w2.setCell ⟨w.heap.size + 1 + 1, 7, none⟩ (.slice a2 zo.length c2)) := (But.refl (fun b => b = w.heap.size + 1 + 1) _).setCell (p := ⟨w.heap.size + 1 + 1, 7, none⟩) rfl _
        have qq2 : (w2.setCell ⟨w.heap.size + 1 + 1, 7, none⟩ (.slice a2 zo.length c2)).heap[w.heap.size + 1 + 1]? = some (.cells #[.int .u8 tos, .int .u16 id, .bool keep, .int .u8 ttl, .int .u8 pr, .int .u32 src, .int .u32 dst, .slice a2 zo.length c2, .slice ad ld cd] 26 (0, 0)) := heap_set1 q2 7 _
        have hO3 := hO2.apart q2 (by decide) b2
        have r3 := (b2.block (w.heap.size + 1) (Nat.lt_of_lt_of_le (Array.getElem?_eq_some_iff.1 r1).1 hb2.size) (by omega)).trans ((hb2.block (w.heap.size + 1) (Array.getElem?_eq_some_iff.1 r1).1).trans r1)
        have hw2 := hw1.trans (hb2.mono hw1.size)
        have hw3 : Below w.heap.size w _ := hw2.trans (b2.below hw2.size (fun k hk e => by omega))
        clear Q2 F2 P1 q2 b2 ra2 la2
        generalize w2.setCell ⟨w.heap.size + 1 + 1, 7, none⟩ (.slice a2 zo.length c2) = W3 at *
        clear qq
        have qq := qq2
        clear qq2
        have la4 : Below W3.heap.size W3 (W3.alloc (.cells #[] 5)) := (Below.refl _ _).alloc (Nat.le_refl _) _
        have ra4 : Rd W3.heap.size (W3.alloc (.cells #[] 5)) _ zx := ((hIx.below hw3).mono hw3.size).below la4
        go_upto_region 9 with (at_builtin; refine wpList_app _ rfl (.tmp 38) (.tmp 39) 24 rfl W3.heap.size 5 i0 Tryd.underlying24 hi hz0 hz1 hz2 _ [] rfl (own_empty W3 _) W3.heap.size _ zx rfl ra4 (by simp; omega) (by simp) ?_; intro v4 w4 ho4 hg4; have hb4 := below_app la4 (own_empty W3 _) hg4 (Nat.le_refl _) la4.size; clear hg4; simp only [List.nil_append] at ho4; have hO4 := Ow.of_row ho4; clear ho4; obtain ⟨a4, c4, rfl, hp4, hm4⟩ := hO4.slice; have q4 := (hb4.block (w.heap.size + 1 + 1) (Array.getElem?_eq_some_iff.1 qq).1).trans qq; have Q4 := block_cell q4; have F4 := block_frozen q4)
        have b4 : But (fun b => b = w.heap.size + 1 + 1) w4 (w4.setCell ⟨w.heap.size + 1 + 1, 8, none⟩ (.slice a4 zx.length c4)) := (But.refl (fun b => b = w.heap.size + 1 + 1) _).setCell (p := ⟨w.heap.size + 1 + 1, 8, none⟩) rfl _
        have qq4 : (w4.setCell ⟨w.heap.size + 1 + 1, 8, none⟩ (.slice a4 zx.length c4)).heap[w.heap.size + 1 + 1]? = some (.cells #[.int .u8 tos, .int .u16 id, .bool keep, .int .u8 ttl, .int .u8 pr, .int .u32 src, .int .u32 dst, .slice a2 zo.length c2, .slice a4 zx.length c4] 26 (0, 0)) := heap_set1 q4 8 _
        have hO5 := hO4.apart q4 (by decide) b4
        have hO6 := (hO3.later hb4).apart q4 (by decide) b4
        have r5 := (b4.block (w.heap.size + 1) (Nat.lt_of_lt_of_le (Array.getElem?_eq_some_iff.1 r3).1 hb4.size) (by omega)).trans ((hb4.block (w.heap.size + 1) (Array.getElem?_eq_some_iff.1 r3).1).trans r3)
        have hw4 := hw3.trans (hb4.mono hw3.size)
        have hw5 : Below w.heap.size w _ := hw4.trans (b4.below hw4.size (fun k hk e => by omega))
        clear Q4 F4 q4 b4 ra4 la4
        generalize w4.setCell ⟨w.heap.size + 1 + 1, 8, none⟩ (.slice a4 zx.length c4) = W5 at *
        have hs3 := (Array.getElem?_eq_some_iff.1 r3).1
        have Q5 := block_cell qq4
        have R5 := block_cell r5
        have F5 := block_frozen r5
        go_wp2_with fail
        generalize hV : ((((((((W5.setCell ⟨w.heap.size + 1, 0, none⟩ _).setCell ⟨w.heap.size + 1, 1, none⟩ _).setCell ⟨w.heap.size + 1, 2, none⟩ _).setCell ⟨w.heap.size + 1, 3, none⟩ _).setCell ⟨w.heap.size + 1, 4, none⟩ _).setCell ⟨w.heap.size + 1, 5, none⟩ _).setCell ⟨w.heap.size + 1, 6, none⟩ _).setCell ⟨w.heap.size + 1, 7, none⟩ _).setCell ⟨w.heap.size + 1, 8, none⟩ _ = V8
        have hV9 : V8 = putRow W5 (w.heap.size + 1) 0 [Value.int .u8 tos, .int .u16 id, .bool keep, .int .u8 ttl, .int .u8 pr, .int .u32 src, .int .u32 dst, .slice a2 zo.length c2, .slice a4 zx.length c4] := hV.symm
        have hb8 : But (fun b => b = w.heap.size + 1) W5 V8 := by rw [hV9]; exact putRow_but (E := fun b => b = w.heap.size + 1) (n := w.heap.size + 1) rfl _ _ _ _ (But.refl _ _)
        have p8 := putRow_all [Value.int .u8 tos, .int .u16 id, .bool keep, .int .u8 ttl, .int .u8 pr, .int .u32 src, .int .u32 dst, .slice a2 zo.length c2, .slice a4 zx.length c4] r5 rfl
        rw [← hV9] at p8
        clear hV hV9
        have P8 := block_cell p8
        have hw8 : Below w.heap.size w V8 := (hw5).trans (hb8.below (hw5).size (fun k h e => by omega))
        exact bodyPost_ret (v := .tuple #[.agg #[.int .u8 tos, .int .u16 id, .bool keep, .int .u8 ttl, .int .u8 pr, .int .u32 src, .int .u32 dst, .slice a2 zo.length c2, .slice a4 zx.length c4], .int .i64 0]) (by simp [results, Tryd.results23, go_sem, P8]) rfl (⟨hw8, .inr ⟨HF.out, a2, c2, a4, c4, rfl, (hO6.apart r5 (by decide) hb8).mono (by omega), (hO5.apart r5 (by decide) hb8).mono (by omega)⟩⟩)
    · have t2 : ((zo.length : Int) % 4 != 0) = true := by simp; omega
      have HF : Hid (flt zo.length zx.length = 4) := by show _ = _; unfold flt; rw [if_pos (.inr c2)]
      go_enter Tryd.func23, Tryd.ntmps23
      go_wp2_with fail
      exact bodyPost_ret (v := .tuple #[.agg #[.int .u8 0, .int .u16 0, .bool false, .int .u8 0, .int .u8 0, .int .u32 0, .int .u32 0, .slice none 0 0, .slice none 0 0], .int .i64 4]) (by simp [results, Tryd.results23, go_sem]) rfl ⟨hb0, .inl ⟨by rw [HF.out]; decide, by rw [HF.out]⟩⟩
end Go.Proofs.YtcdeiakeiehaaaaDoor
