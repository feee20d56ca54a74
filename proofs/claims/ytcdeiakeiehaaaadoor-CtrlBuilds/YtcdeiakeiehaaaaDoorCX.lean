/- The document's BuildIcmp. -/
import Derived.Test.YtcdeiakeiehaaaaDoorCW
import Derived.Test.YtcdeiakeiehaaaaDoorWA
namespace Go.Proofs.YtcdeiakeiehaaaaDoor
open Go.RowKit Go.Shelf
set_option maxRecDepth 100000
set_option linter.unusedVariables false
set_option linter.unusedSimpArgs false

theorem flt_none (lo : Nat) (h : flt lo 0 ≠ 0) (n : Nat) : flt lo 0 = 4 ∧ flt lo n = 4 := by
  unfold flt at *
  by_cases c : 40 < lo ∨ lo % 4 ≠ 0
  · rw [if_pos c, if_pos c]; exact ⟨rfl, rfl⟩
  · rw [if_neg c, if_neg (by omega)] at h
    exact absurd rfl h
theorem flt_some (lo : Nat) (h : flt lo 0 = 0) (n : Nat) : flt lo n = (if 65535 < 20 + lo + n then 8 else 0) := by
  unfold flt at *
  by_cases c : 40 < lo ∨ lo % 4 ≠ 0
  · rw [if_pos c] at h; exact absurd h (by decide)
  · rw [if_neg c]
theorem own_four (w : World) (a b c d : Int) : (w.alloc (.cells #[.int .u8 a, .int .u8 b, .int .u8 c, .int .u8 d] 5)).ownsRow w.heap.size 5 1 (.slice (some ⟨w.heap.size, 0, none⟩) 4 4) [a, b, c, d].length ([a, b, c, d].map (Value.int .u8)) :=
  ⟨rfl, .inr ⟨w.heap.size, 4, _, rfl, Nat.le_refl _, heap_alloc_new w _, by simp, by simp [maxLen], rfl, rfl⟩⟩

theorem but_app {base n size : Nat} {e : TypeId} {W W' : World} {v : Value} {xs : List Value} (ho : W.ownsRow base e size v n xs) (hg : W.grownBy W' v.ownBlock) : But (fun b => base ≤ b) W W' :=
  ⟨hg.os, hg.tape, hg.output, hg.size, fun i hi he => hg.block i hi (fun e => he (ho.lt i e.symm).1)⟩

set_option maxHeartbeats 8000000 in
theorem rbuildIcmp_any (tos id ttl proto src dst ty cde rest : Int) (keep : Bool) (so sm : Value) (ad : Option Addr) (ld cd : Nat) (zo zd : List Int) (w : World) (hIo : Rd w.heap.size w so zo) (hBd : Mt.By zd) (hIm : Rd w.heap.size w sm zd)
    (h1 : zo.length ≤ 140737488355328) (h2 : 8 + zd.length ≤ 140737488355328) (hty : 0 ≤ ty ∧ ty ≤ 255) (hco : 0 ≤ cde ∧ cde ≤ 255) (hre : 0 ≤ rest ∧ rest ≤ 4294967295) :
    Calls Tryd.prog 7 #[.agg #[.int .u8 tos, .int .u16 id, .bool keep, .int .u8 ttl, .int .u8 proto, .int .u32 src, .int .u32 dst, so, .slice ad ld cd], .agg #[.int .u8 ty, .int .u8 cde, .int .u32 rest, sm]] w fun e w' => Below w.heap.size w w' ∧ ((flt zo.length (8 + zd.length) ≠ 0 ∧ e = .returned (.tuple #[.agg #[.int .u8 0, .int .u16 0, .bool false, .int .u8 0, .int .u8 0, .int .u32 0, .int .u32 0, .slice none 0 0, .slice none 0 0], .int .i64 (flt zo.length (8 + zd.length))])) ∨
      (flt zo.length (8 + zd.length) = 0 ∧ ∃ a7 c7 a8 c8, e = .returned (.tuple #[.agg #[.int .u8 tos, .int .u16 id, .bool keep, .int .u8 ttl, .int .u8 1, .int .u32 src, .int .u32 dst, .slice a7 zo.length c7, .slice a8 (8 + zd.length) c8], .int .i64 0]) ∧ Ow w.heap.size w' (.slice a7 zo.length c7) zo ∧ Ow w.heap.size w' (.slice a8 (8 + zd.length) c8) (icm ty cde rest zd))) := by
  obtain ⟨ao, co, rfl, _, _⟩ := hIo.slice
  obtain ⟨am, cm, rfl, _, _⟩ := hIm.slice
  have hb0 : Below w.heap.size w (((w.alloc (.cells #[.int .u8 tos, .int .u16 id, .bool keep, .int .u8 ttl, .int .u8 proto, .int .u32 src, .int .u32 dst, .slice ao zo.length co, .slice ad ld cd] 26)).alloc (.cells #[.int .u8 ty, .int .u8 cde, .int .u32 rest, .slice am zd.length cm] 28)).alloc (.cells #[.int .u8 0, .int .u16 0, .bool false, .int .u8 0, .int .u8 0, .int .u32 0, .int .u32 0, .slice none 0 0, .slice none 0 0] 26)) := (((Below.refl _ _).alloc (Nat.le_refl _) _).alloc (by simp) _).alloc (by simp; omega) _
  have p0 : (((w.alloc (.cells #[.int .u8 tos, .int .u16 id, .bool keep, .int .u8 ttl, .int .u8 proto, .int .u32 src, .int .u32 dst, .slice ao zo.length co, .slice ad ld cd] 26)).alloc (.cells #[.int .u8 ty, .int .u8 cde, .int .u32 rest, .slice am zd.length cm] 28)).alloc (.cells #[.int .u8 0, .int .u16 0, .bool false, .int .u8 0, .int .u8 0, .int .u32 0, .int .u32 0, .slice none 0 0, .slice none 0 0] 26)).heap[w.heap.size]? = some (.cells #[.int .u8 tos, .int .u16 id, .bool keep, .int .u8 ttl, .int .u8 proto, .int .u32 src, .int .u32 dst, .slice ao zo.length co, .slice ad ld cd] 26) := (Below.heap_alloc _ _ _ (by simp; omega)).trans ((Below.heap_alloc _ _ _ (by simp)).trans (heap_alloc_new w _))
  have m0 : (((w.alloc (.cells #[.int .u8 tos, .int .u16 id, .bool keep, .int .u8 ttl, .int .u8 proto, .int .u32 src, .int .u32 dst, .slice ao zo.length co, .slice ad ld cd] 26)).alloc (.cells #[.int .u8 ty, .int .u8 cde, .int .u32 rest, .slice am zd.length cm] 28)).alloc (.cells #[.int .u8 0, .int .u16 0, .bool false, .int .u8 0, .int .u8 0, .int .u32 0, .int .u32 0, .slice none 0 0, .slice none 0 0] 26)).heap[w.heap.size + 1]? = some (.cells #[.int .u8 ty, .int .u8 cde, .int .u32 rest, .slice am zd.length cm] 28) := by
    have := heap_alloc_new (w.alloc (.cells #[.int .u8 tos, .int .u16 id, .bool keep, .int .u8 ttl, .int .u8 proto, .int .u32 src, .int .u32 dst, .slice ao zo.length co, .slice ad ld cd] 26)) (.cells #[.int .u8 ty, .int .u8 cde, .int .u32 rest, .slice am zd.length cm] 28)
    rw [World.size_alloc] at this
    exact (Below.heap_alloc _ _ _ (by simp)).trans this
  have r0 : (((w.alloc (.cells #[.int .u8 tos, .int .u16 id, .bool keep, .int .u8 ttl, .int .u8 proto, .int .u32 src, .int .u32 dst, .slice ao zo.length co, .slice ad ld cd] 26)).alloc (.cells #[.int .u8 ty, .int .u8 cde, .int .u32 rest, .slice am zd.length cm] 28)).alloc (.cells #[.int .u8 0, .int .u16 0, .bool false, .int .u8 0, .int .u8 0, .int .u32 0, .int .u32 0, .slice none 0 0, .slice none 0 0] 26)).heap[w.heap.size + 1 + 1]? = some (.cells #[.int .u8 0, .int .u16 0, .bool false, .int .u8 0, .int .u8 0, .int .u32 0, .int .u32 0, .slice none 0 0, .slice none 0 0] 26 (0, 0)) := by
    have := heap_alloc_new ((w.alloc (.cells #[.int .u8 tos, .int .u16 id, .bool keep, .int .u8 ttl, .int .u8 proto, .int .u32 src, .int .u32 dst, .slice ao zo.length co, .slice ad ld cd] 26)).alloc (.cells #[.int .u8 ty, .int .u8 cde, .int .u32 rest, .slice am zd.length cm] 28)) (.cells #[.int .u8 0, .int .u16 0, .bool false, .int .u8 0, .int .u8 0, .int .u32 0, .int .u32 0, .slice none 0 0, .slice none 0 0] 26)
    simpa using this
  have P0 := hide p0
  have M0 := hide m0
  have R0 := hide r0
  clear p0 m0 r0
  go_enter Tryd.func7, Tryd.ntmps7
  go_wp2_with fail
  generalize ((w.alloc (.cells #[.int .u8 tos, .int .u16 id, .bool keep, .int .u8 ttl, .int .u8 proto, .int .u32 src, .int .u32 dst, .slice ao zo.length co, .slice ad ld cd] 26)).alloc (.cells #[.int .u8 ty, .int .u8 cde, .int .u32 rest, .slice am zd.length cm] 28)).alloc (.cells #[.int .u8 0, .int .u16 0, .bool false, .int .u8 0, .int .u8 0, .int .u32 0, .int .u32 0, .slice none 0 0, .slice none 0 0] 26) = w0 at *
  refine (rwith_any tos id ttl proto src dst 1 keep _ _ ad ld cd zo [] w0 ((hIo.below hb0).mono hb0.size) (rd_zero w0) h1 (by simp)).mono ?_
  rintro e w1 ⟨hb1, ⟨hf, rfl⟩ | ⟨hf, a7, c7, a8, c8, rfl, hO1, hD1⟩⟩
  · obtain ⟨f4, f4'⟩ := flt_none zo.length hf (8 + zd.length)
    rw [show ([] : List Int).length = 0 from rfl, f4]
    have HF := hide f4'
    clear f4 f4' hf
    have l2 : Later w1 (w1.alloc (.cells #[.int .u8 0, .int .u16 0, .bool false, .int .u8 0, .int .u8 0, .int .u32 0, .int .u32 0, .slice none 0 0, .slice none 0 0] 26)) := (Below.refl _ _).alloc (Nat.le_refl _) _
    have l02 := Later.trans hb1 l2
    have r2 := (l02.block (w.heap.size + 1 + 1) (Array.getElem?_eq_some_iff.1 R0.out).1).trans R0.out
    have hw2 := hb0.trans (l02.mono hb0.size)
    have RR := block_cell r2
    have FF := block_frozen r2
    go_wp2_with fail
    generalize w1.alloc (.cells #[.int .u8 0, .int .u16 0, .bool false, .int .u8 0, .int .u8 0, .int .u32 0, .int .u32 0, .slice none 0 0, .slice none 0 0] 26) = w2 at *
    generalize hV : ((((((((w2.setCell ⟨w.heap.size + 1 + 1, 0, none⟩ _).setCell ⟨w.heap.size + 1 + 1, 1, none⟩ _).setCell ⟨w.heap.size + 1 + 1, 2, none⟩ _).setCell ⟨w.heap.size + 1 + 1, 3, none⟩ _).setCell ⟨w.heap.size + 1 + 1, 4, none⟩ _).setCell ⟨w.heap.size + 1 + 1, 5, none⟩ _).setCell ⟨w.heap.size + 1 + 1, 6, none⟩ _).setCell ⟨w.heap.size + 1 + 1, 7, none⟩ _).setCell ⟨w.heap.size + 1 + 1, 8, none⟩ _ = V8
    have hV9 : V8 = putRow w2 (w.heap.size + 1 + 1) 0 [Value.int .u8 0, .int .u16 0, .bool false, .int .u8 0, .int .u8 0, .int .u32 0, .int .u32 0, .slice none 0 0, .slice none 0 0] := hV.symm
    have hb8 : But (fun b => b = w.heap.size + 1 + 1) w2 V8 := by rw [hV9]; exact putRow_but (E := fun b => b = w.heap.size + 1 + 1) (n := w.heap.size + 1 + 1) rfl _ _ _ _ (But.refl _ _)
    have p8 := putRow_all [Value.int .u8 0, .int .u16 0, .bool false, .int .u8 0, .int .u8 0, .int .u32 0, .int .u32 0, .slice none 0 0, .slice none 0 0] r2 rfl
    rw [← hV9] at p8
    clear hV hV9
    have P8 := block_cell p8
    have hw8 : Below w.heap.size w V8 := (hw2).trans (hb8.below (hw2).size (fun k h e => by omega))
    exact bodyPost_ret (v := .tuple #[.agg #[.int .u8 0, .int .u16 0, .bool false, .int .u8 0, .int .u8 0, .int .u32 0, .int .u32 0, .slice none 0 0, .slice none 0 0], .int .i64 4]) (by simp [results, Tryd.results7, go_sem, P8]) rfl (⟨hw8, .inl ⟨by rw [HF.out]; decide, by rw [HF.out]⟩⟩)
  · have f0 := flt_some zo.length hf (8 + zd.length)
    clear hf
    have l2 : Later w1 (w1.alloc (.cells #[.int .u8 tos, .int .u16 id, .bool keep, .int .u8 ttl, .int .u8 1, .int .u32 src, .int .u32 dst, .slice a7 zo.length c7, .slice a8 ([] : List Int).length c8] 26)) := (Below.refl _ _).alloc (Nat.le_refl _) _
    have l02 := Later.trans hb1 l2
    have p2 := (l02.block w.heap.size (Array.getElem?_eq_some_iff.1 P0.out).1).trans P0.out
    have m2 := (l02.block (w.heap.size + 1) (Array.getElem?_eq_some_iff.1 M0.out).1).trans M0.out
    have r2 := (l02.block (w.heap.size + 1 + 1) (Array.getElem?_eq_some_iff.1 R0.out).1).trans R0.out
    have hw2 := hb0.trans (l02.mono hb0.size)
    have PP := block_cell p2
    have MM := block_cell m2
    rw [show ([] : List Int).length = 0 from rfl] at *
    by_cases c3 : 65535 < 20 + zo.length + (8 + zd.length)
    · have t3 : (65535 : Int) < 28 + zo.length + zd.length := by omega
      rw [if_pos c3] at f0
      have HF := hide f0
      clear f0 c3
      have RR := block_cell r2
      have FF := block_frozen r2
      go_wp2_with fail
      generalize w1.alloc (.cells #[.int .u8 tos, .int .u16 id, .bool keep, .int .u8 ttl, .int .u8 1, .int .u32 src, .int .u32 dst, .slice a7 zo.length c7, .slice a8 0 c8] 26) = w2 at *
      generalize hV : ((((((((w2.setCell ⟨w.heap.size + 1 + 1, 0, none⟩ _).setCell ⟨w.heap.size + 1 + 1, 1, none⟩ _).setCell ⟨w.heap.size + 1 + 1, 2, none⟩ _).setCell ⟨w.heap.size + 1 + 1, 3, none⟩ _).setCell ⟨w.heap.size + 1 + 1, 4, none⟩ _).setCell ⟨w.heap.size + 1 + 1, 5, none⟩ _).setCell ⟨w.heap.size + 1 + 1, 6, none⟩ _).setCell ⟨w.heap.size + 1 + 1, 7, none⟩ _).setCell ⟨w.heap.size + 1 + 1, 8, none⟩ _ = V8
      have hV9 : V8 = putRow w2 (w.heap.size + 1 + 1) 0 [Value.int .u8 0, .int .u16 0, .bool false, .int .u8 0, .int .u8 0, .int .u32 0, .int .u32 0, .slice none 0 0, .slice none 0 0] := hV.symm
      have hb8 : But (fun b => b = w.heap.size + 1 + 1) w2 V8 := by rw [hV9]; exact putRow_but (E := fun b => b = w.heap.size + 1 + 1) (n := w.heap.size + 1 + 1) rfl _ _ _ _ (But.refl _ _)
      have p8 := putRow_all [Value.int .u8 0, .int .u16 0, .bool false, .int .u8 0, .int .u8 0, .int .u32 0, .int .u32 0, .slice none 0 0, .slice none 0 0] r2 rfl
      rw [← hV9] at p8
      clear hV hV9
      have P8 := block_cell p8
      have hw8 : Below w.heap.size w V8 := (hw2).trans (hb8.below (hw2).size (fun k h e => by omega))
      exact bodyPost_ret (v := .tuple #[.agg #[.int .u8 0, .int .u16 0, .bool false, .int .u8 0, .int .u8 0, .int .u32 0, .int .u32 0, .slice none 0 0, .slice none 0 0], .int .i64 8]) (by simp [results, Tryd.results7, go_sem, P8]) rfl (⟨hw8, .inl ⟨by rw [HF.out]; decide, by rw [HF.out]⟩⟩)
    · have t3 : ¬ (65535 : Int) < 28 + zo.length + zd.length := by omega
      rw [if_neg c3] at f0
      have HF := hide f0
      clear f0
      go_upto_region 7 with fail
      have hs2 : (w1.alloc (.cells #[.int .u8 tos, .int .u16 id, .bool keep, .int .u8 ttl, .int .u8 1, .int .u32 src, .int .u32 dst, .slice a7 zo.length c7, .slice a8 0 c8] 26)).heap.size = w1.heap.size + 1 := by simp
      generalize w1.alloc (.cells #[.int .u8 tos, .int .u16 id, .bool keep, .int .u8 ttl, .int .u8 1, .int .u32 src, .int .u32 dst, .slice a7 zo.length c7, .slice a8 0 c8] 26) = w2 at *
      have own3 := own_four w2 ty cde 0 0
      have l3 : Later w2 (w2.alloc (.cells #[.int .u8 ty, .int .u8 cde, .int .u8 0, .int .u8 0] 5)) := (Below.refl _ _).alloc (Nat.le_refl _) _
      have hw3 := hw2.trans (l3.mono hw2.size)
      have p3 := (l3.block w.heap.size (Array.getElem?_eq_some_iff.1 p2).1).trans p2
      have m3 := (l3.block (w.heap.size + 1) (Array.getElem?_eq_some_iff.1 m2).1).trans m2
      have r3 := (l3.block (w.heap.size + 1 + 1) (Array.getElem?_eq_some_iff.1 r2).1).trans r2
      clear PP MM l02 p2 m2
      have HW2 := hide hw2
      clear hw2
      rw [hs2] at own3
      have hsr := (Array.getElem?_eq_some_iff.1 r2).1
      rw [hs2] at hsr
      generalize w2.alloc (.cells #[.int .u8 ty, .int .u8 cde, .int .u8 0, .int .u8 0] 5) = w3 at *
      go_cut [8] (fun v wx => wx.ownsRow (w1.heap.size + 1) 5 1 v (icm0 ty cde rest zd).length ((icm0 ty cde rest zd).map (Value.int .u8)) ∧ Below (w1.heap.size + 1) w3 wx)
      case first =>
        refine anyT_begin (R := But (fun b => w1.heap.size + 1 ≤ b)) 9 rfl (by kernel_rfl) ?_
        have hd : Later w3 w3.drew := Later.drew w3
        have hz3 : w1.heap.size + 1 ≤ w3.heap.size := by have := l3.size; omega
        have ownd := row_below own3 hd (Nat.le_refl _)
        have bd : Below (w1.heap.size + 1) w3 w3.drew := hd.mono hz3
        generalize w3.drew = Wd at *
        have ha : ∀ v1, But (fun b => w1.heap.size + 1 ≤ b) Wd v1 → ∀ i, v1.cell? ⟨w.heap.size + 1, i, none⟩ = #[Value.int .u8 ty, .int .u8 cde, .int .u32 rest, .slice am zd.length cm][i]? := fun v1 h => block_cell ((((But.of hd).trans h).block (w.heap.size + 1) (Array.getElem?_eq_some_iff.1 m3).1 (by omega)).trans m3)
        refine anyT_val (But.pre _) 0 rfl (by kernel_rfl) (by kernel_rfl) (by kernel_rfl) (fun _ _ _ _ h => h) rfl ?_; apply Exists.intro; refine ⟨fun v1 hv1 => ?_, ?_⟩; (· (go_simp; rfl)); simp only [Act.put, List.setIfInBounds_toArray, List.set_cons_zero, List.set_cons_succ]
        refine anyT_val (But.pre _) 1 rfl (by kernel_rfl) (by kernel_rfl) (by kernel_rfl) (fun _ _ _ _ h => h) rfl ?_; apply Exists.intro; refine ⟨fun v1 hv1 => ?_, ?_⟩; (· (go_simp; rfl)); simp only [Act.put, List.setIfInBounds_toArray, List.set_cons_zero, List.set_cons_succ]
        refine anyT_val (But.pre _) 2 rfl (by kernel_rfl) (by kernel_rfl) (by kernel_rfl) (fun _ _ _ _ h => h) rfl ?_; apply Exists.intro; refine ⟨fun v1 hv1 => ?_, ?_⟩; (· (go_simp; rfl)); simp only [Act.put, List.setIfInBounds_toArray, List.set_cons_zero, List.set_cons_succ]
        refine anyT_val (But.pre _) 5 rfl (by kernel_rfl) (by kernel_rfl) (by kernel_rfl) (fun _ _ _ _ h => h) rfl ?_; apply Exists.intro; refine ⟨fun v1 hv1 => ?_, ?_⟩; (· (go_simp; rfl)); simp only [Act.put, List.setIfInBounds_toArray, List.set_cons_zero, List.set_cons_succ]
        refine anyT_val (But.pre _) 6 rfl (by kernel_rfl) (by kernel_rfl) (by kernel_rfl) (fun _ _ _ _ h => h) rfl ?_; apply Exists.intro; refine ⟨fun v1 hv1 => ?_, ?_⟩; (· (go_simp; rfl)); simp only [Act.put, List.setIfInBounds_toArray, List.set_cons_zero, List.set_cons_succ]
        refine anyT_one 3 rfl (by kernel_rfl) rfl ?_
        refine wp_enter 24 #[.int .u32 rest] (by go_simp) ?_
        refine (four_any rest hre Wd).mono ?_
        rintro e w4 ⟨rfl, rfl⟩
        have l4 : Later Wd (Wd.alloc (.cells #[.int .u8 (rest / 16777216), .int .u8 (rest / 65536 % 256), .int .u8 (rest / 256 % 256), .int .u8 (rest % 256)] 5)) := (Below.refl _ _).alloc (Nat.le_refl _) _
        have R4 := Rd.new4 (rest / 16777216) (rest / 65536 % 256) (rest / 256 % 256) (rest % 256) 5 Wd
        have own4 := row_below ownd l4 (Nat.le_refl _)
        have hzd : w1.heap.size + 1 ≤ Wd.heap.size := Nat.le_trans hz3 hd.size
        have b4 := bd.trans (l4.mono hzd)
        refine ⟨But.of l4, ?_⟩
        simp only [Act.put, List.setIfInBounds_toArray, List.set_cons_zero, List.set_cons_succ]
        generalize Wd.alloc (.cells #[.int .u8 (rest / 16777216), .int .u8 (rest / 65536 % 256), .int .u8 (rest / 256 % 256), .int .u8 (rest % 256)] 5) = W4 at *
        refine anyT_one 4 rfl (by kernel_rfl) rfl ?_
        obtain ⟨i0, hi, hz0, hz1, hz2⟩ := info_parts info_u8
        have hz4 : w1.heap.size + 1 ≤ W4.heap.size := Nat.le_trans hzd l4.size
        obtain ⟨v5, W5, hrun5, hown5, hgr5⟩ := run_app (P := Tryd.prog) W4 24 24 5 (w1.heap.size + 1) i0 Tryd.underlying24 hi hz0 hz1 hz2 _ [ty, cde, 0, 0] own4 (Wd.heap.size + 1) _ [rest / 16777216, rest / 65536 % 256, rest / 256 % 256, rest % 256] R4 (by simp) hz4
        have b5 := below_app b4 own4 hgr5 (Nat.le_refl _) hz4
        have bt5 : But (fun b => w1.heap.size + 1 ≤ b) W4 W5 := but_app own4 hgr5
        clear hgr5
        refine wp_app (.tmp 33) (.tmp 36) 24 rfl _ _ rfl rfl _ W5 hrun5 ⟨bt5, ?_⟩
        simp only [Act.put, List.setIfInBounds_toArray, List.set_cons_zero, List.set_cons_succ]
        refine anyT_one 7 rfl (by kernel_rfl) rfl ?_
        have hz5 : w1.heap.size + 1 ≤ W5.heap.size := Nat.le_trans hz4 bt5.size
        have hRm : Rd w.heap.size W5 (.slice am zd.length cm) zd := hIm.below (hw3.trans (b5.mono (by omega)))
        obtain ⟨v6, W6, hrun6, hown6, hgr6⟩ := run_app (P := Tryd.prog) W5 24 24 5 (w1.heap.size + 1) i0 Tryd.underlying24 hi hz0 hz1 hz2 _ _ hown5 w.heap.size _ zd hRm (by simp; omega) hz5
        have b6 := below_app b5 hown5 hgr6 (Nat.le_refl _) hz5
        have bt6 : But (fun b => w1.heap.size + 1 ≤ b) W5 W6 := but_app hown5 hgr6
        clear hgr6
        refine wp_app (.tmp 37) (.tmp 39) 24 rfl _ _ rfl rfl _ W6 hrun6 ⟨bt6, ?_⟩
        simp only [Act.put, List.setIfInBounds_toArray, List.set_cons_zero, List.set_cons_succ]
        refine anyT_one 8 rfl (by kernel_rfl) rfl ?_
        unfold Oper.wp
        go_simp
        refine ⟨But.refl _ _, ?_⟩
        refine anyT_done (by kernel_rfl) ?_
        have hlist : [ty, cde, 0, 0] ++ [rest / 16777216, rest / 65536 % 256, rest / 256 % 256, rest % 256] ++ zd = icm0 ty cde rest zd := by
          unfold icm0
          simp
          omega
        rw [hlist] at hown6
        go_wp2_with fail
        go_meet
        case rel => exact ⟨hown6, b6⟩
      case rest =>
        obtain ⟨hown, bc⟩ := hcut
        have hz3 : w1.heap.size + 1 ≤ w3.heap.size := by have := l3.size; omega
        have p4 := (bc.block w.heap.size (by omega)).trans p3
        have r4 := (bc.block (w.heap.size + 1 + 1) (by omega)).trans r3
        have hw4 := hw3.trans (bc.mono (by omega))
        have hO4 := Ow.of_row hown
        obtain ⟨a4, c4, rfl, _, _⟩ := hO4.slice
        clear p3 r3 m3 hown own3 r2
        have hBi := By_icm0 ty cde rest zd hty hco hre hBd
        have hli := icm0_length ty cde rest zd
        have hcb := Mt.cks_bd (icm0 ty cde rest zd)
        have HIC : Hid (putAt2 (icm0 ty cde rest zd) 2 (Mt.cks (icm0 ty cde rest zd)) = icm ty cde rest zd) := by show _ = _; unfold putAt2; rw [if_pos (by rw [hli]; omega)]; rfl
        have hlc := icm_length ty cde rest zd
        have HLI := hide hli
        have HLC := hide hlc
        clear hli hlc
        generalize icm0 ty cde rest zd = bb at *
        go_upto_region 8 with fail
        refine anyT_begin (R := But (fun b => b = w.heap.size + 1 + 1)) 10 rfl (by kernel_rfl) ?_
        have hd : Later wc wc.drew := Later.drew wc
        have p5 := (hd.block w.heap.size (Array.getElem?_eq_some_iff.1 p4).1).trans p4
        have r5 := (hd.block (w.heap.size + 1 + 1) (Array.getElem?_eq_some_iff.1 r4).1).trans r4
        have hw5 := hw4.trans (hd.mono hw4.size)
        have hO5 := hO4.later hd
        generalize wc.drew = Wd at *
        have ha : ∀ v1, But (fun b => b = w.heap.size + 1 + 1) Wd v1 → ∀ i, v1.cell? ⟨w.heap.size, i, none⟩ = #[Value.int .u8 tos, .int .u16 id, .bool keep, .int .u8 ttl, .int .u8 proto, .int .u32 src, .int .u32 dst, .slice ao zo.length co, .slice ad ld cd][i]? := fun v1 h => block_cell ((h.block w.heap.size (Array.getElem?_eq_some_iff.1 p5).1 (by omega)).trans p5)
        refine anyT_val (But.pre _) 0 rfl (by kernel_rfl) (by kernel_rfl) (by kernel_rfl) (fun _ _ _ _ h => h) rfl ?_; apply Exists.intro; refine ⟨fun v1 hv1 => ?_, ?_⟩; (· (go_simp; rfl)); simp only [Act.put, List.setIfInBounds_toArray, List.set_cons_zero, List.set_cons_succ]
        refine anyT_val (But.pre _) 1 rfl (by kernel_rfl) (by kernel_rfl) (by kernel_rfl) (fun _ _ _ _ h => h) rfl ?_; apply Exists.intro; refine ⟨fun v1 hv1 => ?_, ?_⟩; (· (go_simp; rfl)); simp only [Act.put, List.setIfInBounds_toArray, List.set_cons_zero, List.set_cons_succ]
        refine anyT_val (But.pre _) 2 rfl (by kernel_rfl) (by kernel_rfl) (by kernel_rfl) (fun _ _ _ _ h => h) rfl ?_; apply Exists.intro; refine ⟨fun v1 hv1 => ?_, ?_⟩; (· (go_simp; rfl)); simp only [Act.put, List.setIfInBounds_toArray, List.set_cons_zero, List.set_cons_succ]
        refine anyT_one 3 rfl (by kernel_rfl) rfl ?_
        refine wp_enter 26 #[.slice a4 bb.length c4] (by go_simp) ?_
        refine (rsum_any _ bb hBi (by have := HLI.out; omega) Wd hO5.rd).mono ?_
        rintro e W6 ⟨rfl, hb6⟩
        have l6 : Later Wd W6 := hb6
        refine ⟨But.of l6, ?_⟩
        simp only [Act.put, List.setIfInBounds_toArray, List.set_cons_zero, List.set_cons_succ]
        refine anyT_one 4 rfl (by kernel_rfl) rfl ?_
        refine wp_enter 25 #[.slice a4 bb.length c4, .int .i64 2, .int .u16 (Mt.cks bb)] (by go_simp) ?_
        refine (rput16_any _ bb 2 (Mt.cks bb) (by omega) (by have := HLI.out; omega) W6 (hO5.later l6).rd hcb).mono ?_
        rintro e W7 ⟨rv, rfl, hO7, hb7⟩
        have l7 : Later W6 W7 := hb7
        rw [HIC.out] at hO7
        obtain ⟨a7', c7', rfl, _, _⟩ := hO7.slice
        refine ⟨But.of l7, ?_⟩
        simp only [Act.put, List.setIfInBounds_toArray, List.set_cons_zero, List.set_cons_succ]
        refine anyT_one 5 rfl (by kernel_rfl) rfl ?_
        have hw7 := hw5.trans ((Later.trans l6 l7).mono hw5.size)
        refine wp_enter 23 #[.agg #[.int .u8 tos, .int .u16 id, .bool keep, .int .u8 ttl, .int .u8 proto, .int .u32 src, .int .u32 dst, .slice ao zo.length co, .slice ad ld cd], .int .u8 1, .slice a7' (icm ty cde rest zd).length c7'] (by go_simp) ?_
        refine (rwith_any tos id ttl proto src dst 1 keep _ _ ad ld cd zo (icm ty cde rest zd) W7 ((hIo.below hw7).mono hw7.size) hO7.rd h1 (by rw [HLC.out]; omega)).mono ?_
        rw [HLC.out, HF.out]
        rintro e W8 ⟨hb8, ⟨hx, _⟩ | ⟨_, a9, c9, ad9, cd9, rfl, hO9, hD9⟩⟩
        case inl => exact absurd rfl hx
        have l8 : Later W7 W8 := hb8
        refine ⟨But.of l8, ?_⟩
        simp only [Act.put, List.setIfInBounds_toArray, List.set_cons_zero, List.set_cons_succ]
        refine anyT_val (But.pre _) 6 rfl (by kernel_rfl) (by kernel_rfl) (by kernel_rfl) (fun _ _ _ _ h => h) rfl ?_; apply Exists.intro; refine ⟨fun v1 hv1 => ?_, ?_⟩; (· (go_simp; rfl)); simp only [Act.put, List.setIfInBounds_toArray, List.set_cons_zero, List.set_cons_succ]
        refine anyT_val (But.pre _) 7 rfl (by kernel_rfl) (by kernel_rfl) (by kernel_rfl) (fun _ _ _ _ h => h) rfl ?_; apply Exists.intro; refine ⟨fun v1 hv1 => ?_, ?_⟩; (· (go_simp; rfl)); simp only [Act.put, List.setIfInBounds_toArray, List.set_cons_zero, List.set_cons_succ]
        refine anyT_one 8 rfl (by kernel_rfl) rfl ?_
        have l58 := Later.trans l6 (Later.trans l7 l8)
        have r8 := (l58.block (w.heap.size + 1 + 1) (Array.getElem?_eq_some_iff.1 r5).1).trans r5
        have hw8' := hw5.trans (l58.mono hw5.size)
        have k8 := block_cell r8
        have f8 : ∀ j, W8.frozen? ⟨w.heap.size + 1 + 1, j, none⟩ = false := block_frozen r8
        unfold Oper.wp
        go_simp
        generalize hV7 : ((((((((W8.setCell ⟨w.heap.size + 1 + 1, 0, none⟩ _).setCell ⟨w.heap.size + 1 + 1, 1, none⟩ _).setCell ⟨w.heap.size + 1 + 1, 2, none⟩ _).setCell ⟨w.heap.size + 1 + 1, 3, none⟩ _).setCell ⟨w.heap.size + 1 + 1, 4, none⟩ _).setCell ⟨w.heap.size + 1 + 1, 5, none⟩ _).setCell ⟨w.heap.size + 1 + 1, 6, none⟩ _).setCell ⟨w.heap.size + 1 + 1, 7, none⟩ _).setCell ⟨w.heap.size + 1 + 1, 8, none⟩ _ = V7
        have hV8 : V7 = putRow W8 (w.heap.size + 1 + 1) 0 [.int .u8 tos, .int .u16 id, .bool keep, .int .u8 ttl, .int .u8 1, .int .u32 src, .int .u32 dst, .slice a9 zo.length c9, .slice ad9 (8 + zd.length) cd9] := hV7.symm
        have hbV : But (fun b => b = w.heap.size + 1 + 1) W8 V7 := by rw [hV8]; exact putRow_rb _ _
        have pV := putRow_all [Value.int .u8 tos, .int .u16 id, .bool keep, .int .u8 ttl, .int .u8 1, .int .u32 src, .int .u32 dst, .slice a9 zo.length c9, .slice ad9 (8 + zd.length) cd9] r8 rfl
        rw [← hV8] at pV
        clear hV7 hV8 k8 f8
        refine ⟨hbV, ?_⟩
        refine anyT_one 9 rfl (by kernel_rfl) rfl ?_
        unfold Oper.wp
        go_simp
        refine ⟨But.refl _ _, ?_⟩
        refine anyT_done (by kernel_rfl) ?_
        have PV := block_cell pV
        have hwV : Below w.heap.size w V7 := hw8'.trans (hbV.below hw8'.size (fun k hk e => by omega))
        go_wp2_with fail
        exact bodyPost_ret (v := .tuple #[.agg #[.int .u8 tos, .int .u16 id, .bool keep, .int .u8 ttl, .int .u8 1, .int .u32 src, .int .u32 dst, .slice a9 zo.length c9, .slice ad9 (8 + zd.length) cd9], .int .i64 0]) (by simp [results, Tryd.results7, go_sem, PV]) rfl ⟨hwV, .inr ⟨HF.out, a9, c9, ad9, cd9, rfl, (hO9.apart r8 (by decide) hbV).mono hw7.size, (hD9.apart r8 (by decide) hbV).mono hw7.size⟩⟩
end Go.Proofs.YtcdeiakeiehaaaaDoor
