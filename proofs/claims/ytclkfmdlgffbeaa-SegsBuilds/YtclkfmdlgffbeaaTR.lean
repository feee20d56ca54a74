/- The document's BuildUdp, optionBytes, BuildTcp; Build in one form, both sides; the walk of SegsBuilds. -/
import Derived.Test.YtclkfmdlgffbeaaCX
import Derived.Test.YtclkfmdlgffbeaaTA
import Derived.Test.YtclkfmdlgffbeaaSE
import Derived.Test.YtclkfmdlgffbeaaSH
import Derived.Test.YtclkfmdlgffbeaaSI
import Derived.Test.YtclkfmdlgffbeaaVR
import Derived.Test.YtclkfmdlgffbeaaSS
namespace Go.Proofs.Ytclkfmdlgffbeaa
open Go.RowKit Go.Shelf
set_option maxRecDepth 100000
set_option linter.unusedVariables false
set_option linter.unusedSimpArgs false



/-- Bytes that grow in a row of the call's own, made behind a world. -/
def Rw (Wb : World) (v : Value) (ys : List Int) (W : World) : Prop := W.ownsRow Wb.heap.size 5 1 v ys.length (ys.map (Value.int .u8)) ∧ Below Wb.heap.size Wb W
theorem Rw.nil {Wb W : World} (h : Later Wb W) : Rw Wb (.slice none 0 0) [] W := ⟨World.ownsRow_nil _ _ _ _, h⟩
theorem Rw.later {Wb W W' : World} {v : Value} {ys : List Int} (h : Rw Wb v ys W) (l : Later W W') : Rw Wb v ys W' := ⟨row_below h.1 l (Nat.le_refl _), h.2.trans (l.mono h.2.size)⟩
theorem Rw.app {Wb W : World} {v : Value} {ys : List Int} (h : Rw Wb v ys W) (ty : TypeId) (n₀ : Nat) (sx : Value) (zs : List Int) (hI : Rd n₀ W sx zs) (hbd : ys.length + zs.length ≤ 140737488355328) :
    ∃ v' W', (Builtin.append_ #[24, 24] ty #[v, sx]).run Try.prog W = .ok v' W' ∧ Rw Wb v' (ys ++ zs) W' ∧ But (fun b => Wb.heap.size ≤ b) W W' := by
  obtain ⟨i0, hi, hz0, hz1, hz2⟩ := info_parts info_u8
  obtain ⟨v', W', hr, ho, hg⟩ := run_app (P := Try.prog) W 24 ty 5 Wb.heap.size i0 Try.underlying24 hi hz0 hz1 hz2 v ys h.1 n₀ sx zs hI hbd h.2.size
  exact ⟨v', W', hr, ⟨ho, below_app h.2 h.1 hg (Nat.le_refl _) h.2.size⟩, but_app h.1 hg⟩
theorem wpList_rw {ops : Array Oper} {rest : List Oper} {o : Oper} {a : Act} {Q : Exit → Act → World → Prop} (w : World) (hgd : o.guard = none) (s x : Operand)
    (ho : o.op = .call { callee := .builtin .append, args := #[s, x], argTypes := #[24, 24] }) {Wb : World} {v : Value} {ys : List Int} (hR : Rw Wb v ys w) (hs : a.eval s = v)
    (n₀ : Nat) (sx : Value) (zs : List Int) (hx : a.eval x = sx) (hI : Rd n₀ w sx zs) (hbd : ys.length + zs.length ≤ 140737488355328)
    (h : ∀ v' w', Rw Wb v' (ys ++ zs) w' → wpList Try.prog ops Q rest (a.put o.dst v') w') : wpList Try.prog ops Q (o :: rest) a w := by
  obtain ⟨i0, hi, hz0, hz1, hz2⟩ := info_parts info_u8
  exact wpList_app w hgd s x 24 ho Wb.heap.size 5 i0 Try.underlying24 hi hz0 hz1 hz2 v ys hs hR.1 n₀ sx zs hx hI hbd hR.2.size (fun v' w' h1 h2 => h v' w' ⟨h1, below_app hR.2 hR.1 h2 (Nat.le_refl _) hR.2.size⟩)
theorem Rw.ow {Wb W : World} {v : Value} {ys : List Int} (h : Rw Wb v ys W) : Ow Wb.heap.size W v ys := Ow.of_row h.1
theorem Rw.block {Wb W : World} {v : Value} {ys : List Int} (h : Rw Wb v ys W) {k : Nat} {o : Obj} (ho : Wb.heap[k]? = some o) : W.heap[k]? = some o := (h.2.block k (Array.getElem?_eq_some_iff.1 ho).1).trans ho
theorem later_two (W : World) (x y : Int) : Later W (W.alloc (.cells #[.int .u8 x, .int .u8 y] 5)) := (Below.refl _ _).alloc (Nat.le_refl _) _

set_option maxHeartbeats 8000000 in
theorem rbuildUdp_any (tos id ttl proto src dst sp dp : Int) (keep bare : Bool) (so sm : Value) (ad : Option Addr) (ld cd : Nat) (zo zm : List Int) (w : World) (hIo : Rd w.heap.size w so zo) (hBd : Mt.By zm) (hIm : Rd w.heap.size w sm zm)
    (h1 : zo.length ≤ 140737488355328) (h2 : 8 + zm.length ≤ 140737488355328) (hsr : 0 ≤ src ∧ src ≤ 4294967295) (hds : 0 ≤ dst ∧ dst ≤ 4294967295) (hsp : 0 ≤ sp ∧ sp ≤ 65535) (hdp : 0 ≤ dp ∧ dp ≤ 65535) :
    Calls Try.prog 14 #[.agg #[.int .u8 tos, .int .u16 id, .bool keep, .int .u8 ttl, .int .u8 proto, .int .u32 src, .int .u32 dst, so, .slice ad ld cd], .agg #[.int .u16 sp, .int .u16 dp, .bool bare, sm]] w fun e w' => Below w.heap.size w w' ∧ ((flt zo.length (8 + zm.length) ≠ 0 ∧ e = .returned (.tuple #[.agg #[.int .u8 0, .int .u16 0, .bool false, .int .u8 0, .int .u8 0, .int .u32 0, .int .u32 0, .slice none 0 0, .slice none 0 0], .int .i64 (flt zo.length (8 + zm.length))])) ∨
      (flt zo.length (8 + zm.length) = 0 ∧ ∃ a7 c7 a8 c8, e = .returned (.tuple #[.agg #[.int .u8 tos, .int .u16 id, .bool keep, .int .u8 ttl, .int .u8 17, .int .u32 src, .int .u32 dst, .slice a7 zo.length c7, .slice a8 (8 + zm.length) c8], .int .i64 0]) ∧ Ow w.heap.size w' (.slice a7 zo.length c7) zo ∧ Ow w.heap.size w' (.slice a8 (8 + zm.length) c8) (udp sp dp bare src dst zm))) := by
  obtain ⟨ao, co, rfl, _, _⟩ := hIo.slice
  obtain ⟨am, cm, rfl, _, _⟩ := hIm.slice
  have hb0 : Below w.heap.size w (((w.alloc (.cells #[.int .u8 tos, .int .u16 id, .bool keep, .int .u8 ttl, .int .u8 proto, .int .u32 src, .int .u32 dst, .slice ao zo.length co, .slice ad ld cd] 26)).alloc (.cells #[.int .u16 sp, .int .u16 dp, .bool bare, .slice am zm.length cm] 37)).alloc (.cells #[.int .u8 0, .int .u16 0, .bool false, .int .u8 0, .int .u8 0, .int .u32 0, .int .u32 0, .slice none 0 0, .slice none 0 0] 26)) := (((Below.refl _ _).alloc (Nat.le_refl _) _).alloc (by simp) _).alloc (by simp; omega) _
  have p0 : (((w.alloc (.cells #[.int .u8 tos, .int .u16 id, .bool keep, .int .u8 ttl, .int .u8 proto, .int .u32 src, .int .u32 dst, .slice ao zo.length co, .slice ad ld cd] 26)).alloc (.cells #[.int .u16 sp, .int .u16 dp, .bool bare, .slice am zm.length cm] 37)).alloc (.cells #[.int .u8 0, .int .u16 0, .bool false, .int .u8 0, .int .u8 0, .int .u32 0, .int .u32 0, .slice none 0 0, .slice none 0 0] 26)).heap[w.heap.size]? = some (.cells #[.int .u8 tos, .int .u16 id, .bool keep, .int .u8 ttl, .int .u8 proto, .int .u32 src, .int .u32 dst, .slice ao zo.length co, .slice ad ld cd] 26) := (Below.heap_alloc _ _ _ (by simp; omega)).trans ((Below.heap_alloc _ _ _ (by simp)).trans (heap_alloc_new w _))
  have m0 : (((w.alloc (.cells #[.int .u8 tos, .int .u16 id, .bool keep, .int .u8 ttl, .int .u8 proto, .int .u32 src, .int .u32 dst, .slice ao zo.length co, .slice ad ld cd] 26)).alloc (.cells #[.int .u16 sp, .int .u16 dp, .bool bare, .slice am zm.length cm] 37)).alloc (.cells #[.int .u8 0, .int .u16 0, .bool false, .int .u8 0, .int .u8 0, .int .u32 0, .int .u32 0, .slice none 0 0, .slice none 0 0] 26)).heap[w.heap.size + 1]? = some (.cells #[.int .u16 sp, .int .u16 dp, .bool bare, .slice am zm.length cm] 37) := by
    have := heap_alloc_new (w.alloc (.cells #[.int .u8 tos, .int .u16 id, .bool keep, .int .u8 ttl, .int .u8 proto, .int .u32 src, .int .u32 dst, .slice ao zo.length co, .slice ad ld cd] 26)) (.cells #[.int .u16 sp, .int .u16 dp, .bool bare, .slice am zm.length cm] 37)
    rw [World.size_alloc] at this
    exact (Below.heap_alloc _ _ _ (by simp)).trans this
  have r0 : (((w.alloc (.cells #[.int .u8 tos, .int .u16 id, .bool keep, .int .u8 ttl, .int .u8 proto, .int .u32 src, .int .u32 dst, .slice ao zo.length co, .slice ad ld cd] 26)).alloc (.cells #[.int .u16 sp, .int .u16 dp, .bool bare, .slice am zm.length cm] 37)).alloc (.cells #[.int .u8 0, .int .u16 0, .bool false, .int .u8 0, .int .u8 0, .int .u32 0, .int .u32 0, .slice none 0 0, .slice none 0 0] 26)).heap[w.heap.size + 1 + 1]? = some (.cells #[.int .u8 0, .int .u16 0, .bool false, .int .u8 0, .int .u8 0, .int .u32 0, .int .u32 0, .slice none 0 0, .slice none 0 0] 26 (0, 0)) := by
    have := heap_alloc_new ((w.alloc (.cells #[.int .u8 tos, .int .u16 id, .bool keep, .int .u8 ttl, .int .u8 proto, .int .u32 src, .int .u32 dst, .slice ao zo.length co, .slice ad ld cd] 26)).alloc (.cells #[.int .u16 sp, .int .u16 dp, .bool bare, .slice am zm.length cm] 37)) (.cells #[.int .u8 0, .int .u16 0, .bool false, .int .u8 0, .int .u8 0, .int .u32 0, .int .u32 0, .slice none 0 0, .slice none 0 0] 26)
    simpa using this
  have P0 := hide p0
  have M0 := hide m0
  have R0 := hide r0
  clear p0 m0 r0
  go_enter Try.func14, Try.ntmps14
  go_wp2_with fail
  generalize ((w.alloc (.cells #[.int .u8 tos, .int .u16 id, .bool keep, .int .u8 ttl, .int .u8 proto, .int .u32 src, .int .u32 dst, .slice ao zo.length co, .slice ad ld cd] 26)).alloc (.cells #[.int .u16 sp, .int .u16 dp, .bool bare, .slice am zm.length cm] 37)).alloc (.cells #[.int .u8 0, .int .u16 0, .bool false, .int .u8 0, .int .u8 0, .int .u32 0, .int .u32 0, .slice none 0 0, .slice none 0 0] 26) = w0 at *
  refine (rwith_any tos id ttl proto src dst 17 keep _ _ ad ld cd zo [] w0 ((hIo.below hb0).mono hb0.size) (rd_zero w0) h1 (by simp)).mono ?_
  rintro e w1 ⟨hb1, ⟨hf, rfl⟩ | ⟨hf, a7, c7, a8, c8, rfl, hO1, hD1⟩⟩
  · obtain ⟨f4, f4'⟩ := flt_none zo.length hf (8 + zm.length)
    rw [show ([] : List Int).length = 0 from rfl, f4]
    have HF := hide f4'
    clear f4 f4' hf
    have l2 : Later w1 (w1.alloc (.cells #[.int .u8 0, .int .u16 0, .bool false, .int .u8 0, .int .u8 0, .int .u32 0, .int .u32 0, .slice none 0 0, .slice none 0 0] 26)) := (Below.refl _ _).alloc (Nat.le_refl _) _
    have l02 := Later.trans hb1 l2
    have r2 := (l02.block (w.heap.size + 1 + 1) (Array.getElem?_eq_some_iff.1 R0.out).1).trans R0.out
    have hw2 := hb0.trans (l02.mono hb0.size)
    have RR := block_cell r2
    have FF := block_frozen r2
    go_wp2_with fail
    generalize w1.alloc (.cells #[.int .u8 0, .int .u16 0, .bool false, .int .u8 0, .int .u8 0, .int .u32 0, .int .u32 0, .slice none 0 0, .slice none 0 0] 26) = w2 at *
    generalize hV : ((((((((w2.setCell ⟨w.heap.size + 1 + 1, 0, none⟩ _).setCell ⟨w.heap.size + 1 + 1, 1, none⟩ _).setCell ⟨w.heap.size + 1 + 1, 2, none⟩ _).setCell ⟨w.heap.size + 1 + 1, 3, none⟩ _).setCell ⟨w.heap.size + 1 + 1, 4, none⟩ _).setCell ⟨w.heap.size + 1 + 1, 5, none⟩ _).setCell ⟨w.heap.size + 1 + 1, 6, none⟩ _).setCell ⟨w.heap.size + 1 + 1, 7, none⟩ _).setCell ⟨w.heap.size + 1 + 1, 8, none⟩ _ = V8
    have hV9 : V8 = putRow w2 (w.heap.size + 1 + 1) 0 [Value.int .u8 0, .int .u16 0, .bool false, .int .u8 0, .int .u8 0, .int .u32 0, .int .u32 0, .slice none 0 0, .slice none 0 0] := hV.symm
    have hb8 : But (fun b => b = w.heap.size + 1 + 1) w2 V8 := by rw [hV9]; exact putRow_but (E := fun b => b = w.heap.size + 1 + 1) (n := w.heap.size + 1 + 1) rfl _ _ _ _ (But.refl _ _)
    have p8 := putRow_all [Value.int .u8 0, .int .u16 0, .bool false, .int .u8 0, .int .u8 0, .int .u32 0, .int .u32 0, .slice none 0 0, .slice none 0 0] r2 rfl
    rw [← hV9] at p8
    clear hV hV9
    have P8 := block_cell p8
    have hw8 : Below w.heap.size w V8 := (hw2).trans (hb8.below (hw2).size (fun k h e => by omega))
    exact bodyPost_ret (v := .tuple #[.agg #[.int .u8 0, .int .u16 0, .bool false, .int .u8 0, .int .u8 0, .int .u32 0, .int .u32 0, .slice none 0 0, .slice none 0 0], .int .i64 4]) (by simp [results, Try.results14, go_sem, P8]) rfl (⟨hw8, .inl ⟨by rw [HF.out]; decide, by rw [HF.out]⟩⟩)
  · have f0 := flt_some zo.length hf (8 + zm.length)
    clear hf
    have l2 : Later w1 (w1.alloc (.cells #[.int .u8 tos, .int .u16 id, .bool keep, .int .u8 ttl, .int .u8 17, .int .u32 src, .int .u32 dst, .slice a7 zo.length c7, .slice a8 ([] : List Int).length c8] 26)) := (Below.refl _ _).alloc (Nat.le_refl _) _
    have l02 := Later.trans hb1 l2
    have p2 := (l02.block w.heap.size (Array.getElem?_eq_some_iff.1 P0.out).1).trans P0.out
    have m2 := (l02.block (w.heap.size + 1) (Array.getElem?_eq_some_iff.1 M0.out).1).trans M0.out
    have r2 := (l02.block (w.heap.size + 1 + 1) (Array.getElem?_eq_some_iff.1 R0.out).1).trans R0.out
    have hw2 := hb0.trans (l02.mono hb0.size)
    have PP := block_cell p2
    have MM := block_cell m2
    rw [show ([] : List Int).length = 0 from rfl] at *
    by_cases c3 : 65535 < 20 + zo.length + (8 + zm.length)
    · have t3 : (65535 : Int) < 28 + zo.length + zm.length := by omega
      rw [if_pos c3] at f0
      have HF := hide f0
      clear f0 c3
      have RR := block_cell r2
      have FF := block_frozen r2
      go_wp2_with fail
      generalize w1.alloc (.cells #[.int .u8 tos, .int .u16 id, .bool keep, .int .u8 ttl, .int .u8 17, .int .u32 src, .int .u32 dst, .slice a7 zo.length c7, .slice a8 0 c8] 26) = w2 at *
      generalize hV : ((((((((w2.setCell ⟨w.heap.size + 1 + 1, 0, none⟩ _).setCell ⟨w.heap.size + 1 + 1, 1, none⟩ _).setCell ⟨w.heap.size + 1 + 1, 2, none⟩ _).setCell ⟨w.heap.size + 1 + 1, 3, none⟩ _).setCell ⟨w.heap.size + 1 + 1, 4, none⟩ _).setCell ⟨w.heap.size + 1 + 1, 5, none⟩ _).setCell ⟨w.heap.size + 1 + 1, 6, none⟩ _).setCell ⟨w.heap.size + 1 + 1, 7, none⟩ _).setCell ⟨w.heap.size + 1 + 1, 8, none⟩ _ = V8
      have hV9 : V8 = putRow w2 (w.heap.size + 1 + 1) 0 [Value.int .u8 0, .int .u16 0, .bool false, .int .u8 0, .int .u8 0, .int .u32 0, .int .u32 0, .slice none 0 0, .slice none 0 0] := hV.symm
      have hb8 : But (fun b => b = w.heap.size + 1 + 1) w2 V8 := by rw [hV9]; exact putRow_but (E := fun b => b = w.heap.size + 1 + 1) (n := w.heap.size + 1 + 1) rfl _ _ _ _ (But.refl _ _)
      have p8 := putRow_all [Value.int .u8 0, .int .u16 0, .bool false, .int .u8 0, .int .u8 0, .int .u32 0, .int .u32 0, .slice none 0 0, .slice none 0 0] r2 rfl
      rw [← hV9] at p8
      clear hV hV9
      have P8 := block_cell p8
      have hw8 : Below w.heap.size w V8 := (hw2).trans (hb8.below (hw2).size (fun k h e => by omega))
      exact bodyPost_ret (v := .tuple #[.agg #[.int .u8 0, .int .u16 0, .bool false, .int .u8 0, .int .u8 0, .int .u32 0, .int .u32 0, .slice none 0 0, .slice none 0 0], .int .i64 8]) (by simp [results, Try.results14, go_sem, P8]) rfl (⟨hw8, .inl ⟨by rw [HF.out]; decide, by rw [HF.out]⟩⟩)
    · have t3 : ¬ (65535 : Int) < 28 + zo.length + zm.length := by omega
      rw [if_neg c3] at f0
      have HF := hide f0
      clear f0
      go_upto_region 7 with fail
      generalize w1.alloc (.cells #[.int .u8 tos, .int .u16 id, .bool keep, .int .u8 ttl, .int .u8 17, .int .u32 src, .int .u32 dst, .slice a7 zo.length c7, .slice a8 0 c8] 26) = w2 at *
      clear PP MM l02 hb0
      have hsr2 := (Array.getElem?_eq_some_iff.1 r2).1
      go_cut [8] (fun v wx => Rw w2 v ([sp, dp].flatMap b2) wx)
      case first =>
        refine anyT_begin (R := But (fun b => w2.heap.size ≤ b)) 10 rfl (by kernel_rfl) ?_
        have R0 : Rw w2 (.slice none 0 0) [] w2.drew := Rw.nil (Later.drew w2)
        have md := R0.block m2
        generalize w2.drew = Wd at *
        have ha : ∀ v1, But (fun b => w2.heap.size ≤ b) Wd v1 → ∀ i, v1.cell? ⟨w.heap.size + 1, i, none⟩ = #[Value.int .u16 sp, .int .u16 dp, .bool bare, .slice am zm.length cm][i]? := fun v1 h => block_cell ((h.block (w.heap.size + 1) (Array.getElem?_eq_some_iff.1 md).1 (by omega)).trans md)
        refine anyT_val (But.pre _) 0 rfl (by kernel_rfl) (by kernel_rfl) (by kernel_rfl) (fun _ _ _ _ h => h) rfl ?_; apply Exists.intro; refine ⟨fun v1 hv1 => ?_, ?_⟩; (· (go_simp; rfl)); simp only [Act.put, List.setIfInBounds_toArray, List.set_cons_zero, List.set_cons_succ]
        refine anyT_val (But.pre _) 1 rfl (by kernel_rfl) (by kernel_rfl) (by kernel_rfl) (fun _ _ _ _ h => h) rfl ?_; apply Exists.intro; refine ⟨fun v1 hv1 => ?_, ?_⟩; (· (go_simp; rfl)); simp only [Act.put, List.setIfInBounds_toArray, List.set_cons_zero, List.set_cons_succ]
        refine anyT_val (But.pre _) 2 rfl (by kernel_rfl) (by kernel_rfl) (by kernel_rfl) (fun _ _ _ _ h => h) rfl ?_; apply Exists.intro; refine ⟨fun v1 hv1 => ?_, ?_⟩; (· (go_simp; rfl)); simp only [Act.put, List.setIfInBounds_toArray, List.set_cons_zero, List.set_cons_succ]
        refine anyT_val (But.pre _) 5 rfl (by kernel_rfl) (by kernel_rfl) (by kernel_rfl) (fun _ _ _ _ h => h) rfl ?_; apply Exists.intro; refine ⟨fun v1 hv1 => ?_, ?_⟩; (· (go_simp; rfl)); simp only [Act.put, List.setIfInBounds_toArray, List.set_cons_zero, List.set_cons_succ]
        refine anyT_val (But.pre _) 6 rfl (by kernel_rfl) (by kernel_rfl) (by kernel_rfl) (fun _ _ _ _ h => h) rfl ?_; apply Exists.intro; refine ⟨fun v1 hv1 => ?_, ?_⟩; (· (go_simp; rfl)); simp only [Act.put, List.setIfInBounds_toArray, List.set_cons_zero, List.set_cons_succ]
        refine anyT_one 3 rfl (by kernel_rfl) rfl ?_
        refine wp_enter 38 #[.int .u16 sp] (by go_simp) ?_
        refine (two_any sp hsp Wd).mono ?_
        rintro e w4 ⟨rfl, rfl⟩
        have R4 := R0.later (later_two Wd (sp / 256) (sp % 256))
        have X4 := Rd.new2 (sp / 256) (sp % 256) 5 Wd
        refine ⟨But.of (later_two Wd _ _), ?_⟩
        simp only [Act.put, List.setIfInBounds_toArray, List.set_cons_zero, List.set_cons_succ]
        generalize Wd.alloc (.cells #[.int .u8 (sp / 256), .int .u8 (sp % 256)] 5) = W4 at *
        refine anyT_one 4 rfl (by kernel_rfl) rfl ?_
        obtain ⟨v5, W5, hrun5, R5, bt5⟩ := R4.app 24 _ _ _ X4 (by simp)
        refine wp_app (.tmp 29) (.tmp 32) 24 rfl _ _ rfl rfl _ W5 hrun5 ⟨bt5, ?_⟩
        simp only [Act.put, List.setIfInBounds_toArray, List.set_cons_zero, List.set_cons_succ]
        refine anyT_one 7 rfl (by kernel_rfl) rfl ?_
        refine wp_enter 38 #[.int .u16 dp] (by go_simp) ?_
        refine (two_any dp hdp W5).mono ?_
        rintro e w4 ⟨rfl, rfl⟩
        have R6 := R5.later (later_two W5 (dp / 256) (dp % 256))
        have X6 := Rd.new2 (dp / 256) (dp % 256) 5 W5
        refine ⟨But.of (later_two W5 _ _), ?_⟩
        simp only [Act.put, List.setIfInBounds_toArray, List.set_cons_zero, List.set_cons_succ]
        generalize W5.alloc (.cells #[.int .u8 (dp / 256), .int .u8 (dp % 256)] 5) = W6 at *
        refine anyT_one 8 rfl (by kernel_rfl) rfl ?_
        obtain ⟨v7, W7, hrun7, R7, bt7⟩ := R6.app 24 _ _ _ X6 (by simp)
        refine wp_app (.tmp 33) (.tmp 36) 24 rfl _ _ rfl rfl _ W7 hrun7 ⟨bt7, ?_⟩
        simp only [Act.put, List.setIfInBounds_toArray, List.set_cons_zero, List.set_cons_succ]
        refine anyT_one 9 rfl (by kernel_rfl) rfl ?_
        unfold Oper.wp
        go_simp
        refine ⟨But.refl _ _, ?_⟩
        refine anyT_done (by kernel_rfl) ?_
        clear ha hrun5 hrun7
        go_wp2_with fail
        go_meet
        case rel => exact R7
      case rest =>
        have R3 : Rw w2 _ ([sp, dp].flatMap b2) wc := hcut
        clear hcut
        have mc := block_cell (R3.block m2)
        have hl8 : (8 + (zm.length : Int)) % 65536 = 8 + zm.length := by omega
        have hw8 : 8 + (zm.length : Int) ≤ 65535 := by omega
        go_wp2_with fail
        refine (two_any (8 + zm.length) (by omega) wc).mono ?_
        rintro e w4 ⟨rfl, rfl⟩
        have R4 := R3.later (later_two wc ((8 + zm.length) / 256) ((8 + zm.length) % 256))
        have X4 := Rd.new2 ((8 + (zm.length : Int)) / 256) ((8 + zm.length) % 256) 5 wc
        clear mc
        generalize wc.alloc (.cells #[.int .u8 ((8 + (zm.length : Int)) / 256), .int .u8 ((8 + zm.length) % 256)] 5) = W4 at *
        generalize some (⟨wc.heap.size, 0, none⟩ : Addr) = a4 at *
        go_wp2_with (at_builtin; go_loud (refine wpList_rw _ rfl (.tmp 38) (.tmp 44) rfl R4 rfl _ _ _ rfl X4 (by simp [b2]) ?_; intro v5 W5 R5; refine Hid.out ?_))
        have R6 := R5.later (later_two W5 0 0)
        have X6 := Rd.new2 0 0 5 W5
        show wpList _ _ _ _ _ _
        go_wp2_with (at_builtin; go_loud (refine wpList_rw _ rfl (.tmp 45) (.tmp 46) rfl R6 rfl _ _ _ rfl X6 (by simp [b2]) ?_; intro v7 W7 R7; refine Hid.out ?_))
        have m7 := block_cell (R7.block m2)
        have hRm : Rd w.heap.size W7 (.slice am zm.length cm) zm := hIm.below (hw2.trans (R7.2.mono hw2.size))
        show wpList _ _ _ _ _ _
        go_wp2_with (at_builtin; go_loud (refine wpList_rw _ rfl (.tmp 48) (.tmp 50) rfl R7 rfl _ _ _ rfl hRm (by simp [b2]; omega) ?_; intro v8 W8 R8; refine Hid.out ?_))
        have hlist : (([sp, dp].flatMap b2 ++ [(8 + (zm.length : Int)) / 256, (8 + zm.length) % 256]) ++ [0, 0]) ++ zm = udp0 sp dp zm := by unfold udp0; rw [hl8]; simp [b2]
        rw [hlist] at R8
        have m8 := block_cell (R8.block m2)
        have p8 := block_cell (R8.block p2)
        have r8 := R8.block r2
        have hO8 := R8.ow
        have hw8' := hw2.trans (R8.2.mono hw2.size)
        clear m7 R3 R4 R5 R6 R7 X4 X6 hRm hlist
        show wpList _ _ _ _ _ _
        have pb := R8.block p2
        obtain ⟨a8', c8', rfl, _, _⟩ := hO8.slice
        have hBu : Mt.By (udp0 sp dp zm) := By_udp0 sp dp zm hsp hdp hBd
        have hlu := udp0_length sp dp zm
        have HLC := hide (udp_length sp dp bare src dst zm)
        have HLU := hide hlu
        clear hlu
        have hz : 8 + zm.length ≤ 65535 := by omega
        clear hl8 t3 hw8 R8
        cases bare
        · have HUD : Hid (putAt2 (udp0 sp dp zm) 6 (usm src dst 17 (udp0 sp dp zm)) = udp sp dp false src dst zm) := by show _ = _; unfold putAt2 udp; rw [if_pos (by rw [HLU.out]; omega)]; rfl
          have hub := usm_bd src dst 17 (udp0 sp dp zm)
          generalize udp0 sp dp zm = bb at *
          go_wp2_with fail
          refine (rsum3_any tos id ttl proto src dst 17 keep _ _ _ bb W8 hBu hO8.rd (by rw [HLU.out]; omega) (by omega) hsr hds).mono ?_
          rintro e W9 ⟨rfl, hb9⟩
          have HU : Hid (usm src dst 17 bb = if Mt.cks (psd src dst 17 bb.length ++ bb) = 0 then 65535 else Mt.cks (psd src dst 17 bb.length ++ bb)) := rfl
          generalize Mt.cks (psd src dst 17 bb.length ++ bb) = c at *
          by_cases hc : c = 0
          · subst hc
            rw [show usm src dst 17 bb = 65535 from HU.out] at HUD
            clear HU hub
            go_wp2_with fail
            refine (rput16_any _ bb 6 65535 (by omega) (by rw [HLU.out]; omega) W9 (hO8.later hb9).rd (by omega)).mono ?_
            rintro e W10 ⟨rv, rfl, hO10, hb10⟩
            rw [HUD.out] at hO10
            obtain ⟨a10, c10, rfl, _, _⟩ := hO10.slice
            have l10 : Later W8 W10 := Later.trans hb9 hb10
            have p10 := block_cell (later_keep l10 pb)
            go_wp2_with fail
            have pn := block_cell (later_keep l10 pb)
            have rn := later_keep l10 r8
            have hwn := hw8'.trans ((l10).mono hw8'.size)
            refine (rwith_any tos id ttl proto src dst 17 keep _ _ ad ld cd zo (udp sp dp false src dst zm) W10 ((hIo.below hwn).mono hwn.size) hO10.rd h1 (by rw [HLC.out]; omega)).mono ?_
            rw [HLC.out, HF.out]
            rintro e WX ⟨hbX, ⟨hx, _⟩ | ⟨_, a9, c9, ad9, cd9, rfl, hO9, hD9⟩⟩
            case inl => exact absurd rfl hx
            have rX := later_keep hbX rn
            have hwX := hwn.trans (hbX.mono hwn.size)
            have kX := block_cell rX
            have fX := block_frozen rX
            clear pn m8 p8
            go_wp2_with fail
            generalize hV : ((((((((WX.setCell ⟨w.heap.size + 1 + 1, 0, none⟩ _).setCell ⟨w.heap.size + 1 + 1, 1, none⟩ _).setCell ⟨w.heap.size + 1 + 1, 2, none⟩ _).setCell ⟨w.heap.size + 1 + 1, 3, none⟩ _).setCell ⟨w.heap.size + 1 + 1, 4, none⟩ _).setCell ⟨w.heap.size + 1 + 1, 5, none⟩ _).setCell ⟨w.heap.size + 1 + 1, 6, none⟩ _).setCell ⟨w.heap.size + 1 + 1, 7, none⟩ _).setCell ⟨w.heap.size + 1 + 1, 8, none⟩ _ = V
            have hV8 : V = putRow WX (w.heap.size + 1 + 1) 0 [.int .u8 tos, .int .u16 id, .bool keep, .int .u8 ttl, .int .u8 17, .int .u32 src, .int .u32 dst, .slice a9 zo.length c9, .slice ad9 (8 + zm.length) cd9] := hV.symm
            have hbV : But (fun b => b = w.heap.size + 1 + 1) WX V := by rw [hV8]; exact putRow_rb _ _
            have pV := putRow_all [Value.int .u8 tos, .int .u16 id, .bool keep, .int .u8 ttl, .int .u8 17, .int .u32 src, .int .u32 dst, .slice a9 zo.length c9, .slice ad9 (8 + zm.length) cd9] rX rfl
            rw [← hV8] at pV
            clear hV hV8 kX fX
            have PV := block_cell pV
            have hwV : Below w.heap.size w V := hwX.trans (hbV.below hwX.size (fun k hk e => by omega))
            exact bodyPost_ret (v := .tuple #[.agg #[.int .u8 tos, .int .u16 id, .bool keep, .int .u8 ttl, .int .u8 17, .int .u32 src, .int .u32 dst, .slice a9 zo.length c9, .slice ad9 (8 + zm.length) cd9], .int .i64 0]) (by simp [results, Try.results14, go_sem, PV]) rfl ⟨hwV, .inr ⟨HF.out, a9, c9, ad9, cd9, rfl, (hO9.apart rX (by decide) hbV).mono hwn.size, (hD9.apart rX (by decide) hbV).mono hwn.size⟩⟩
          · have hu : usm src dst 17 bb = c := HU.out.trans (if_neg hc)
            rw [hu] at HUD hub
            have hc' : (c == 0) = false := by simp [hc]
            clear HU hu hc
            go_wp2_with fail
            refine (rput16_any _ bb 6 c (by omega) (by rw [HLU.out]; omega) W9 (hO8.later hb9).rd (by omega)).mono ?_
            rintro e W10 ⟨rv, rfl, hO10, hb10⟩
            rw [HUD.out] at hO10
            obtain ⟨a10, c10, rfl, _, _⟩ := hO10.slice
            have l10 : Later W8 W10 := Later.trans hb9 hb10
            have p10 := block_cell (later_keep l10 pb)
            go_wp2_with fail
            have pn := block_cell (later_keep l10 pb)
            have rn := later_keep l10 r8
            have hwn := hw8'.trans ((l10).mono hw8'.size)
            refine (rwith_any tos id ttl proto src dst 17 keep _ _ ad ld cd zo (udp sp dp false src dst zm) W10 ((hIo.below hwn).mono hwn.size) hO10.rd h1 (by rw [HLC.out]; omega)).mono ?_
            rw [HLC.out, HF.out]
            rintro e WX ⟨hbX, ⟨hx, _⟩ | ⟨_, a9, c9, ad9, cd9, rfl, hO9, hD9⟩⟩
            case inl => exact absurd rfl hx
            have rX := later_keep hbX rn
            have hwX := hwn.trans (hbX.mono hwn.size)
            have kX := block_cell rX
            have fX := block_frozen rX
            clear pn m8 p8
            go_wp2_with fail
            generalize hV : ((((((((WX.setCell ⟨w.heap.size + 1 + 1, 0, none⟩ _).setCell ⟨w.heap.size + 1 + 1, 1, none⟩ _).setCell ⟨w.heap.size + 1 + 1, 2, none⟩ _).setCell ⟨w.heap.size + 1 + 1, 3, none⟩ _).setCell ⟨w.heap.size + 1 + 1, 4, none⟩ _).setCell ⟨w.heap.size + 1 + 1, 5, none⟩ _).setCell ⟨w.heap.size + 1 + 1, 6, none⟩ _).setCell ⟨w.heap.size + 1 + 1, 7, none⟩ _).setCell ⟨w.heap.size + 1 + 1, 8, none⟩ _ = V
            have hV8 : V = putRow WX (w.heap.size + 1 + 1) 0 [.int .u8 tos, .int .u16 id, .bool keep, .int .u8 ttl, .int .u8 17, .int .u32 src, .int .u32 dst, .slice a9 zo.length c9, .slice ad9 (8 + zm.length) cd9] := hV.symm
            have hbV : But (fun b => b = w.heap.size + 1 + 1) WX V := by rw [hV8]; exact putRow_rb _ _
            have pV := putRow_all [Value.int .u8 tos, .int .u16 id, .bool keep, .int .u8 ttl, .int .u8 17, .int .u32 src, .int .u32 dst, .slice a9 zo.length c9, .slice ad9 (8 + zm.length) cd9] rX rfl
            rw [← hV8] at pV
            clear hV hV8 kX fX
            have PV := block_cell pV
            have hwV : Below w.heap.size w V := hwX.trans (hbV.below hwX.size (fun k hk e => by omega))
            exact bodyPost_ret (v := .tuple #[.agg #[.int .u8 tos, .int .u16 id, .bool keep, .int .u8 ttl, .int .u8 17, .int .u32 src, .int .u32 dst, .slice a9 zo.length c9, .slice ad9 (8 + zm.length) cd9], .int .i64 0]) (by simp [results, Try.results14, go_sem, PV]) rfl ⟨hwV, .inr ⟨HF.out, a9, c9, ad9, cd9, rfl, (hO9.apart rX (by decide) hbV).mono hwn.size, (hD9.apart rX (by decide) hbV).mono hwn.size⟩⟩
        · rw [show udp0 sp dp zm = udp sp dp true src dst zm from rfl] at *
          go_wp2_with fail
          have pn := block_cell (later_keep (Later.refl W8) pb)
          have rn := later_keep (Later.refl W8) r8
          have hwn := hw8'.trans (((Later.refl W8)).mono hw8'.size)
          refine (rwith_any tos id ttl proto src dst 17 keep _ _ ad ld cd zo (udp sp dp true src dst zm) W8 ((hIo.below hwn).mono hwn.size) hO8.rd h1 (by rw [HLC.out]; omega)).mono ?_
          rw [HLC.out, HF.out]
          rintro e WX ⟨hbX, ⟨hx, _⟩ | ⟨_, a9, c9, ad9, cd9, rfl, hO9, hD9⟩⟩
          case inl => exact absurd rfl hx
          have rX := later_keep hbX rn
          have hwX := hwn.trans (hbX.mono hwn.size)
          have kX := block_cell rX
          have fX := block_frozen rX
          clear pn m8 p8
          go_wp2_with fail
          generalize hV : ((((((((WX.setCell ⟨w.heap.size + 1 + 1, 0, none⟩ _).setCell ⟨w.heap.size + 1 + 1, 1, none⟩ _).setCell ⟨w.heap.size + 1 + 1, 2, none⟩ _).setCell ⟨w.heap.size + 1 + 1, 3, none⟩ _).setCell ⟨w.heap.size + 1 + 1, 4, none⟩ _).setCell ⟨w.heap.size + 1 + 1, 5, none⟩ _).setCell ⟨w.heap.size + 1 + 1, 6, none⟩ _).setCell ⟨w.heap.size + 1 + 1, 7, none⟩ _).setCell ⟨w.heap.size + 1 + 1, 8, none⟩ _ = V
          have hV8 : V = putRow WX (w.heap.size + 1 + 1) 0 [.int .u8 tos, .int .u16 id, .bool keep, .int .u8 ttl, .int .u8 17, .int .u32 src, .int .u32 dst, .slice a9 zo.length c9, .slice ad9 (8 + zm.length) cd9] := hV.symm
          have hbV : But (fun b => b = w.heap.size + 1 + 1) WX V := by rw [hV8]; exact putRow_rb _ _
          have pV := putRow_all [Value.int .u8 tos, .int .u16 id, .bool keep, .int .u8 ttl, .int .u8 17, .int .u32 src, .int .u32 dst, .slice a9 zo.length c9, .slice ad9 (8 + zm.length) cd9] rX rfl
          rw [← hV8] at pV
          clear hV hV8 kX fX
          have PV := block_cell pV
          have hwV : Below w.heap.size w V := hwX.trans (hbV.below hwX.size (fun k hk e => by omega))
          exact bodyPost_ret (v := .tuple #[.agg #[.int .u8 tos, .int .u16 id, .bool keep, .int .u8 ttl, .int .u8 17, .int .u32 src, .int .u32 dst, .slice a9 zo.length c9, .slice ad9 (8 + zm.length) cd9], .int .i64 0]) (by simp [results, Try.results14, go_sem, PV]) rfl ⟨hwV, .inr ⟨HF.out, a9, c9, ad9, cd9, rfl, (hO9.apart rX (by decide) hbV).mono hwn.size, (hD9.apart rX (by decide) hbV).mono hwn.size⟩⟩



theorem Rd.new1 (x : Int) (e : TypeId) (w : World) : Rd (w.heap.size + 1) (w.alloc (.cells #[.int .u8 x] e)) (.slice (some ⟨w.heap.size, 0, none⟩) 1 1) [x] := Rd.new [x] e w (by simp) (by simp)
theorem later_one (W : World) (x : Int) : Later W (W.alloc (.cells #[.int .u8 x] 5)) := (Below.refl _ _).alloc (Nat.le_refl _) _
theorem row_not {W : World} {k : Nat} {cur : Array Value} {t : TypeId} (h : W.heap[k]? = some (.cells cur t (0, 0))) (ht : t ≠ 5) {base size n : Nat} {v : Value} {xs : List Value} (hr : W.ownsRow base 5 size v n xs) : some k ≠ v.ownBlock := by
  rcases hr.2 with ⟨rfl, _⟩ | ⟨g, cap, cur', rfl, _, hgb, _⟩
  · simp [Value.ownBlock]
  · intro e'
    obtain rfl : k = g := by simpa [Value.ownBlock] using e'
    have := h.symm.trans hgb
    simp at this
    exact ht this.2
theorem wpList_rwk {ops : Array Oper} {rest : List Oper} {o : Oper} {a : Act} {Q : Exit → Act → World → Prop} (w : World) (hgd : o.guard = none) (s x : Operand)
    (ho : o.op = .call { callee := .builtin .append, args := #[s, x], argTypes := #[24, 24] }) {Wb : World} {v : Value} {ys : List Int} (hR : Rw Wb v ys w) (hs : a.eval s = v)
    (n₀ : Nat) (sx : Value) (zs : List Int) (hx : a.eval x = sx) (hI : Rd n₀ w sx zs) (hbd : ys.length + zs.length ≤ 140737488355328)
    {k : Nat} {cur : Array Value} {t : TypeId} (hk : w.heap[k]? = some (.cells cur t (0, 0))) (ht : t ≠ 5)
    (h : ∀ v' w', Rw Wb v' (ys ++ zs) w' → w'.heap[k]? = some (.cells cur t (0, 0)) → wpList Try.prog ops Q rest (a.put o.dst v') w') : wpList Try.prog ops Q (o :: rest) a w := by
  obtain ⟨i0, hi, hz0, hz1, hz2⟩ := info_parts info_u8
  exact wpList_app w hgd s x 24 ho Wb.heap.size 5 i0 Try.underlying24 hi hz0 hz1 hz2 v ys hs hR.1 n₀ sx zs hx hI hbd hR.2.size (fun v' w' h1 h2 => h v' w' ⟨h1, below_app hR.2 hR.1 h2 (Nat.le_refl _) hR.2.size⟩ ((h2.block k (Array.getElem?_eq_some_iff.1 hk).1 (row_not hk ht hR.1)).trans hk))
theorem obs_take (os : List Opt) (k : Nat) (h : k < os.length) : obs (os.take (k + 1)) = obs (os.take k) ++ ob1 (os[k]?.getD (0, [])) := by
  rw [List.take_add_one, obs_app]
  simp [h, obs]
theorem obs_mono (os : List Opt) (k : Nat) : (obs (os.take k)).length ≤ (obs os).length := by
  conv => rhs; rw [← List.take_append_drop k os, obs_app]
  simp
theorem not_ok {os : List Opt} {k : Nat} (h : k < os.length) (hb : ¬ okO (os[k]?.getD (0, []))) : ¬ obOk os := fun h0 => hb (h0.1 _ (by simp [h]))
def vpad (v : Value) : Nat := match v with | .slice _ n _ => padn n | _ => 0

set_option maxHeartbeats 8000000 in
theorem roptionBytes_any (sv : Value) (os : List Opt) (w : World) (hI : RdO w.heap.size w sv os) :
    Calls Try.prog 37 #[sv] w fun e w' => Below w.heap.size w w' ∧ ((¬ obOk os ∧ e = .returned (.tuple #[.slice none 0 0, .bool false])) ∨ (obOk os ∧ ∃ a c, e = .returned (.tuple #[.slice a (pad (obs os)).length c, .bool true]) ∧ Ow w.heap.size w' (.slice a (pad (obs os)).length c) (pad (obs os)))) := by
  obtain ⟨a, cap, rfl, hc1, hc2⟩ := hI.slice
  have hlb : (os.length : Int) ≤ 9223372036854775807 := by omega
  go_enter Try.func37, Try.ntmps37
  go_wp2
  go_loopw [4, 5] (fun v i wr => ∃ k : Nat, k ≤ os.length ∧ i = .int .i64 (k : Int) ∧ (∀ o ∈ os.take k, okO o) ∧ (obs (os.take k)).length ≤ 80 ∧ Rw w v (obs (os.take k)) wr) (fun _ i _ => os.length - (intOf i).toNat)
  case atStart => exact ⟨0, by omega, rfl, by simp, by simp [obs], Rw.nil (Later.refl _)⟩
  case round =>
    obtain ⟨k, hk, rfl, hok, h80, hR⟩ := hrel
    have HOK := hide hok
    clear hok
    obtain ⟨av, cv, rfl, hv1, hv2⟩ := hR.ow.slice
    by_cases hlt : k < os.length
    · have hlt' : (k : Int) < os.length := by omega
      by_cases h40 : (obs (os.take k)).length ≤ 40
      · have h40' : ((obs (os.take k)).length : Int) ≤ 40 := by omega
        obtain ⟨b, off, cp, e, _, _, hbb, hcs⟩ := hI.cells (by omega)
        simp at e
        obtain ⟨rfl, rfl⟩ := e
        obtain ⟨s, c0w, c1w, hRs⟩ := hcs k hlt
        have c0 := (hR.2.cell (p := ⟨b, off + k * 2, none⟩) hbb).trans c0w
        have c1 := (hR.2.cell (p := ⟨b, off + k * 2 + 1, none⟩) hbb).trans c1w
        clear c0w c1w
        obtain ⟨sa, sc, rfl, _, _⟩ := hRs.slice
        have HN := hide (not_ok (os := os) (k := k) hlt)
        have HM := hide (obs_mono os (k + 1))
        have HT := hide (obs_take os k hlt)
        have HTK : Hid (∀ o ∈ os.take (k + 1), o = os[k]?.getD (0, []) ∨ o ∈ os.take k) := by
          intro o ho
          rw [List.take_add_one] at ho
          rcases List.mem_append.1 ho with h | h
          · exact .inr h
          · left; simpa [hlt] using h
        clear hcs
        generalize hgo : os[k]?.getD (0, []) = o at *
        have HGO := hide hgo
        clear hgo
        obtain ⟨kd, dt⟩ := o
        dsimp only at c0 c1 hRs
        generalize hys : obs (os.take k) = ys at *
        have HYS := hide hys
        clear hys
        have lo : Later wr (wr.alloc (.cells #[.int .u8 kd, .slice sa dt.length sc] 57)) := (Below.refl _ _).alloc (Nat.le_refl _) _
        have o1 := heap_alloc_new wr (.cells #[.int .u8 kd, .slice sa dt.length sc] 57)
        have hR1 := hR.later lo
        have X2 := Rd.new1 kd 5 (wr.alloc (.cells #[.int .u8 kd, .slice sa dt.length sc] 57))
        rw [World.size_alloc] at X2
        have l2 := later_one (wr.alloc (.cells #[.int .u8 kd, .slice sa dt.length sc] 57)) kd
        have R2 := hR1.later l2
        have o2 := later_keep l2 o1
        clear o1 hR1
        by_cases k0 : kd = 0
        · subst k0
          clear X2 R2 o2 l2
          go_wp2_with fail
          exact bodyPost_ret (v := .tuple #[.slice none 0 0, .bool false]) (by simp [results, Try.results37, go_sem]) rfl ⟨hR.2.trans (lo.mono hR.2.size), .inl ⟨HN.out (fun h => h.1 rfl), rfl⟩⟩
        have e0 : (kd == 0) = false := by simp [k0]
        by_cases k1 : kd = 1
        · subst k1
          by_cases hd : 0 < dt.length
          · have hd' : (0 : Int) < dt.length := by omega
            clear X2 R2 o2 l2
            go_wp2_with fail
            exact bodyPost_ret (v := .tuple #[.slice none 0 0, .bool false]) (by simp [results, Try.results37, go_sem]) rfl ⟨hR.2.trans (lo.mono hR.2.size), .inl ⟨HN.out (fun h => by have := h.2 rfl; dsimp only at this; subst this; simp at hd), rfl⟩⟩
          · obtain rfl : dt = [] := List.length_eq_zero_iff.1 (by omega)
            simp only [List.length_nil] at X2 R2 o2 c1
            clear hd l2 lo
            have O2 := hide o2
            clear o2
            go_wp2_with (at_builtin; go_loud (refine wpList_rwk _ rfl (.tmp 42) (.tmp 45) rfl R2 rfl _ _ _ rfl X2 (by simp; omega) O2.out (by decide) ?_; intro v3 W3 R3 o3; refine Hid.out ?_))
            have oc := block_cell o3
            obtain ⟨a3, c3, rfl, _, _⟩ := R3.ow.slice
            show wpList _ _ _ _ _ _
            go_wp2_with fail
            go_roundw
            case rel => exact ⟨k + 1, by omega, by go_num, fun o ho => by (rcases HTK.out o ho with h | h); (· rw [h]; exact ⟨by show (1 : Int) ≠ 0; decide, fun _ => rfl⟩); exact HOK.out o h, by rw [HT.out, show ob1 (1, []) = [1] from rfl]; simp; omega, by rw [HT.out, show ob1 (1, []) = [1] from rfl]; exact R3⟩
            case measure => simp [intOf]; omega
        have e1 : (kd == 1) = false := by simp [k1]
        have e2 : (kd != 1) = true := by simp [k1]
        by_cases hd : 38 < dt.length
        · have hd' : (38 : Int) < dt.length := by omega
          clear X2 R2 o2 l2
          go_wp2_with fail
          exact bodyPost_ret (v := .tuple #[.slice none 0 0, .bool false]) (by simp [results, Try.results37, go_sem]) rfl ⟨hR.2.trans (lo.mono hR.2.size), .inl ⟨fun h0 => by have h3 := HM.out; rw [HT.out] at h3; have h4 := h0.2; have h5 := ob1_length (kd, dt); unfold osz at h5; rw [if_neg k1] at h5; rw [List.length_append, h5] at h3; dsimp only at h3; omega, rfl⟩⟩
        have hd' : ¬ (38 : Int) < dt.length := by omega
        have O2 := hide o2
        clear o2
        go_wp2_with (at_builtin; go_loud (refine wpList_rwk _ rfl (.tmp 42) (.tmp 45) rfl R2 rfl _ _ _ rfl X2 (by simp; omega) O2.out (by decide) ?_; intro v3 W3 R3 o3; refine Hid.out ?_))
        have oc := block_cell o3
        have l4 := later_one W3 (dt.length + 2)
        have R4 := R3.later l4
        have X4 := Rd.new1 (dt.length + 2) 5 W3
        have O4 := hide (later_keep l4 o3)
        show wpList _ _ _ _ _ _
        go_wp2_with (at_builtin; go_loud (refine wpList_rwk _ rfl (.tmp 50) (.tmp 56) rfl R4 rfl _ _ _ rfl X4 (by simp; omega) O4.out (by decide) ?_; intro v5 W5 R5 o5; refine Hid.out ?_))
        have oc5 := block_cell o5
        have X5 := hRs.below R5.2
        have O5 := hide o5
        clear oc o5
        show wpList _ _ _ _ _ _
        go_wp2_with (at_builtin; go_loud (refine wpList_rwk _ rfl (.tmp 58) (.tmp 60) rfl R5 rfl _ _ _ rfl X5 (by simp; omega) O5.out (by decide) ?_; intro v6 W6 R6 o6; refine Hid.out ?_))
        have hob : ys ++ [kd] ++ [(dt.length : Int) + 2] ++ dt = ys ++ ob1 (kd, dt) := by unfold ob1; rw [if_neg k1]; simp; omega
        rw [hob] at R6
        have hlob : (ob1 (kd, dt)).length ≤ 40 := by rw [ob1_length]; unfold osz; rw [if_neg k1]; dsimp only; omega
        clear hob oc5 O5
        generalize ob1 (kd, dt) = bb at *
        obtain ⟨a6, c6, rfl, _, _⟩ := R6.ow.slice
        show wpList _ _ _ _ _ _
        go_wp2_with fail
        go_roundw
        case rel => exact ⟨k + 1, by omega, by go_num, fun o ho => by (rcases HTK.out o ho with h | h); (· rw [h]; exact ⟨k0, fun h => absurd h k1⟩); exact HOK.out o h, by rw [HT.out]; simp; omega, by rw [HT.out]; exact R6⟩
        case measure => simp [intOf]; omega
      · have HNO : Hid (¬ obOk os) := fun h0 => by have := obs_mono os k; have := h0.2; omega
        generalize hys : obs (os.take k) = ys at *
        have h40' : (40 : Int) < ys.length := by omega
        clear hys
        go_wp2_with fail
        exact bodyPost_ret (v := .tuple #[.slice none 0 0, .bool false]) (by simp [results, Try.results37, go_sem]) rfl ⟨hR.2, .inl ⟨HNO.out, rfl⟩⟩
    · obtain rfl : k = os.length := by omega
      rw [List.take_length] at hR HOK h80 hv1
      rw [List.take_length]
      by_cases h40 : (obs os).length ≤ 40
      · have HO : Hid (obOk os) := ⟨HOK.out, h40⟩
        have h40' : ((obs os).length : Int) ≤ 40 := by omega
        clear hlt HOK
        have HR := hide hR
        clear hR
        generalize hn : (obs os).length = n at *
        have HNL := hide hn
        clear hn
        go_wp2_with fail
        clear hI
        go_loopw [4] (fun v wr => ∃ m : Nat, m ≤ padn n ∧ Rw w v (obs os ++ List.replicate m 0) wr) (fun v _ => vpad v)
        case atStart => exact ⟨0, Nat.zero_le _, by simpa using HR.out⟩
        case round =>
          obtain ⟨m, hm, hRm⟩ := hrel
          obtain ⟨am, cm, rfl, _, _⟩ := hRm.ow.slice
          have hln : (obs os ++ List.replicate m 0).length = n + m := by simp [HNL.out]
          have HLN := hide hln
          clear hln
          generalize hgl : (obs os ++ List.replicate m 0).length = L at *
          have hL : L = n + m := HLN.out
          clear HLN
          by_cases hd : L % 4 = 0
          · have t4 : ((L : Int).tmod 4 != 0) = false := by
              rw [Int.tmod_eq_emod_of_nonneg (by omega)]
              simp
              omega
            have t5 : ((L : Int) % 4 != 0) = false := by simp; omega
            have hme : m = padn n := by unfold padn at *; omega
            have HPD : Hid (obs os ++ List.replicate m 0 = pad (obs os)) := by show _ = _; unfold pad; rw [HNL.out, hme]
            have HGL := hide hgl
            clear hL hm hd hme hgl
            go_wp2_with fail
            exact bodyPost_ret (v := .tuple #[.slice am L cm, .bool true]) (by simp [results, Try.results37, go_sem]) rfl ⟨hRm.2, .inr ⟨HO.out, am, cm, by rw [← HPD.out, HGL.out], by rw [← HPD.out, HGL.out]; exact hRm.ow⟩⟩
          · have t4 : ((L : Int).tmod 4 != 0) = true := by
              rw [Int.tmod_eq_emod_of_nonneg (by omega)]
              simp
              omega
            have t5 : ((L : Int) % 4 != 0) = true := by simp; omega
            have hlt : m + 1 ≤ padn n := by unfold padn at *; omega
            have h44 : L ≤ 44 := by unfold padn at *; omega
            have HD := hide hd
            have HL := hide hL
            have HGL := hide hgl
            clear hd hL hgl
            have R2 := hRm.later (later_one wr 0)
            have X2 := Rd.new1 0 5 wr
            go_wp2_with (at_builtin; go_loud (refine wpList_rw _ rfl (.tmp 69) (.tmp 70) rfl R2 rfl _ _ _ rfl X2 (by rw [HGL.out]; simp; omega) ?_; intro v3 W3 R3; refine Hid.out ?_))
            have R4 : Rw w v3 (obs os ++ List.replicate (m + 1) 0) W3 := by rw [List.replicate_succ', ← List.append_assoc]; exact R3
            have hl4 : (obs os ++ List.replicate (m + 1) 0).length = L + 1 := by rw [HL.out]; simp [HNL.out]; omega
            clear R3
            obtain ⟨a4, c4, rfl, _, _⟩ := R4.ow.slice
            show wpList _ _ _ _ _ _
            go_wp2_with fail
            go_roundw
            case rel => exact ⟨m + 1, hlt, R4⟩
            case measure => simp only [vpad]; rw [hl4, HL.out] at *; have := HD.out; unfold padn at *; omega
      · have HNO : Hid (¬ obOk os) := fun h0 => h40 h0.2
        have h40' : (40 : Int) < (obs os).length := by omega
        clear hlt
        go_wp2_with fail
        exact bodyPost_ret (v := .tuple #[.slice none 0 0, .bool false]) (by simp [results, Try.results37, go_sem]) rfl ⟨hR.2, .inl ⟨HNO.out, rfl⟩⟩




theorem four_b4 (v : Int) (h : 0 ≤ v ∧ v ≤ 4294967295) : [v / 16777216, v / 65536 % 256, v / 256 % 256, v % 256] = b4 v := by
  unfold b4
  simp
  omega
theorem later_four (W : World) (x y z u : Int) : Later W (W.alloc (.cells #[.int .u8 x, .int .u8 y, .int .u8 z, .int .u8 u] 5)) := (Below.refl _ _).alloc (Nat.le_refl _) _

set_option maxHeartbeats 8000000 in
theorem rbuildTcp_any (tos id ttl proto src dst sp dp sq ak fl wn ur : Int) (keep : Bool) (so sO sm : Value) (ad : Option Addr) (ld cd : Nat) (zo zm : List Int) (os : List Opt) (w : World) (hIo : Rd w.heap.size w so zo) (hBm : Mt.By zm) (hIm : Rd w.heap.size w sm zm)
    (hBO : ByO os) (hIO : RdO w.heap.size w sO os) (h1 : zo.length ≤ 140737488355328) (h2 : zm.length ≤ 140737488355000) (hsr : 0 ≤ src ∧ src ≤ 4294967295) (hds : 0 ≤ dst ∧ dst ≤ 4294967295)
    (hsp : 0 ≤ sp ∧ sp ≤ 65535) (hdp : 0 ≤ dp ∧ dp ≤ 65535) (hsq : 0 ≤ sq ∧ sq ≤ 4294967295) (hak : 0 ≤ ak ∧ ak ≤ 4294967295) (hfl : 0 ≤ fl ∧ fl ≤ 255) (hwn : 0 ≤ wn ∧ wn ≤ 65535) (hur : 0 ≤ ur ∧ ur ≤ 65535) :
    Calls Try.prog 12 #[.agg #[.int .u8 tos, .int .u16 id, .bool keep, .int .u8 ttl, .int .u8 proto, .int .u32 src, .int .u32 dst, so, .slice ad ld cd], .agg #[.int .u16 sp, .int .u16 dp, .int .u32 sq, .int .u32 ak, .int .u8 fl, .int .u16 wn, .int .u16 ur, sO, sm]] w fun e w' => Below w.heap.size w w' ∧ (((bte os zo.length zm.length) ≠ 0 ∧ e = .returned (.tuple #[.agg #[.int .u8 0, .int .u16 0, .bool false, .int .u8 0, .int .u8 0, .int .u32 0, .int .u32 0, .slice none 0 0, .slice none 0 0], .int .i64 (bte os zo.length zm.length)])) ∨
      ((bte os zo.length zm.length) = 0 ∧ ∃ a7 c7 a8 c8, e = .returned (.tuple #[.agg #[.int .u8 tos, .int .u16 id, .bool keep, .int .u8 ttl, .int .u8 6, .int .u32 src, .int .u32 dst, .slice a7 zo.length c7, .slice a8 (20 + (pad (obs os)).length + zm.length) c8], .int .i64 0]) ∧ Ow w.heap.size w' (.slice a7 zo.length c7) zo ∧ Ow w.heap.size w' (.slice a8 (20 + (pad (obs os)).length + zm.length) c8) (tcp sp dp sq ak fl wn ur (pad (obs os)) src dst zm))) := by
  obtain ⟨ao, co, rfl, _, _⟩ := hIo.slice
  obtain ⟨am, cm, rfl, _, _⟩ := hIm.slice
  obtain ⟨aO, cO, rfl, _, _⟩ := hIO.slice
  have hb0 : Below w.heap.size w (((w.alloc (.cells #[.int .u8 tos, .int .u16 id, .bool keep, .int .u8 ttl, .int .u8 proto, .int .u32 src, .int .u32 dst, .slice ao zo.length co, .slice ad ld cd] 26)).alloc (.cells #[Value.int .u16 sp, .int .u16 dp, .int .u32 sq, .int .u32 ak, .int .u8 fl, .int .u16 wn, .int .u16 ur, .slice aO os.length cO, .slice am zm.length cm] 29)).alloc (.cells #[.int .u8 0, .int .u16 0, .bool false, .int .u8 0, .int .u8 0, .int .u32 0, .int .u32 0, .slice none 0 0, .slice none 0 0] 26)) := (((Below.refl _ _).alloc (Nat.le_refl _) _).alloc (by simp) _).alloc (by simp; omega) _
  have p0 : (((w.alloc (.cells #[.int .u8 tos, .int .u16 id, .bool keep, .int .u8 ttl, .int .u8 proto, .int .u32 src, .int .u32 dst, .slice ao zo.length co, .slice ad ld cd] 26)).alloc (.cells #[Value.int .u16 sp, .int .u16 dp, .int .u32 sq, .int .u32 ak, .int .u8 fl, .int .u16 wn, .int .u16 ur, .slice aO os.length cO, .slice am zm.length cm] 29)).alloc (.cells #[.int .u8 0, .int .u16 0, .bool false, .int .u8 0, .int .u8 0, .int .u32 0, .int .u32 0, .slice none 0 0, .slice none 0 0] 26)).heap[w.heap.size]? = some (.cells #[.int .u8 tos, .int .u16 id, .bool keep, .int .u8 ttl, .int .u8 proto, .int .u32 src, .int .u32 dst, .slice ao zo.length co, .slice ad ld cd] 26) := (Below.heap_alloc _ _ _ (by simp; omega)).trans ((Below.heap_alloc _ _ _ (by simp)).trans (heap_alloc_new w _))
  have m0 : (((w.alloc (.cells #[.int .u8 tos, .int .u16 id, .bool keep, .int .u8 ttl, .int .u8 proto, .int .u32 src, .int .u32 dst, .slice ao zo.length co, .slice ad ld cd] 26)).alloc (.cells #[Value.int .u16 sp, .int .u16 dp, .int .u32 sq, .int .u32 ak, .int .u8 fl, .int .u16 wn, .int .u16 ur, .slice aO os.length cO, .slice am zm.length cm] 29)).alloc (.cells #[.int .u8 0, .int .u16 0, .bool false, .int .u8 0, .int .u8 0, .int .u32 0, .int .u32 0, .slice none 0 0, .slice none 0 0] 26)).heap[w.heap.size + 1]? = some (.cells #[Value.int .u16 sp, .int .u16 dp, .int .u32 sq, .int .u32 ak, .int .u8 fl, .int .u16 wn, .int .u16 ur, .slice aO os.length cO, .slice am zm.length cm] 29) := by
    have := heap_alloc_new (w.alloc (.cells #[.int .u8 tos, .int .u16 id, .bool keep, .int .u8 ttl, .int .u8 proto, .int .u32 src, .int .u32 dst, .slice ao zo.length co, .slice ad ld cd] 26)) (.cells #[Value.int .u16 sp, .int .u16 dp, .int .u32 sq, .int .u32 ak, .int .u8 fl, .int .u16 wn, .int .u16 ur, .slice aO os.length cO, .slice am zm.length cm] 29)
    rw [World.size_alloc] at this
    exact (Below.heap_alloc _ _ _ (by simp)).trans this
  have r0 : (((w.alloc (.cells #[.int .u8 tos, .int .u16 id, .bool keep, .int .u8 ttl, .int .u8 proto, .int .u32 src, .int .u32 dst, .slice ao zo.length co, .slice ad ld cd] 26)).alloc (.cells #[Value.int .u16 sp, .int .u16 dp, .int .u32 sq, .int .u32 ak, .int .u8 fl, .int .u16 wn, .int .u16 ur, .slice aO os.length cO, .slice am zm.length cm] 29)).alloc (.cells #[.int .u8 0, .int .u16 0, .bool false, .int .u8 0, .int .u8 0, .int .u32 0, .int .u32 0, .slice none 0 0, .slice none 0 0] 26)).heap[w.heap.size + 1 + 1]? = some (.cells #[.int .u8 0, .int .u16 0, .bool false, .int .u8 0, .int .u8 0, .int .u32 0, .int .u32 0, .slice none 0 0, .slice none 0 0] 26 (0, 0)) := by
    have := heap_alloc_new ((w.alloc (.cells #[.int .u8 tos, .int .u16 id, .bool keep, .int .u8 ttl, .int .u8 proto, .int .u32 src, .int .u32 dst, .slice ao zo.length co, .slice ad ld cd] 26)).alloc (.cells #[Value.int .u16 sp, .int .u16 dp, .int .u32 sq, .int .u32 ak, .int .u8 fl, .int .u16 wn, .int .u16 ur, .slice aO os.length cO, .slice am zm.length cm] 29)) (.cells #[.int .u8 0, .int .u16 0, .bool false, .int .u8 0, .int .u8 0, .int .u32 0, .int .u32 0, .slice none 0 0, .slice none 0 0] 26)
    simpa using this
  have P0 := hide p0
  have M0 := hide m0
  have R0 := hide r0
  clear p0 m0 r0
  go_enter Try.func12, Try.ntmps12
  go_wp2_with fail
  generalize ((w.alloc (.cells #[.int .u8 tos, .int .u16 id, .bool keep, .int .u8 ttl, .int .u8 proto, .int .u32 src, .int .u32 dst, .slice ao zo.length co, .slice ad ld cd] 26)).alloc (.cells #[Value.int .u16 sp, .int .u16 dp, .int .u32 sq, .int .u32 ak, .int .u8 fl, .int .u16 wn, .int .u16 ur, .slice aO os.length cO, .slice am zm.length cm] 29)).alloc (.cells #[.int .u8 0, .int .u16 0, .bool false, .int .u8 0, .int .u8 0, .int .u32 0, .int .u32 0, .slice none 0 0, .slice none 0 0] 26) = w0 at *
  refine (roptionBytes_any _ os w0 ((hIO.below hb0).mono hb0.size)).mono ?_
  rintro e w2 ⟨hb1, ⟨hno, rfl⟩ | ⟨hok, a6, c6, rfl, hOO⟩⟩
  · have HF : Hid ((bte os zo.length zm.length) = 4) := if_neg hno
    have hw2 := hb0.trans (hb1.mono hb0.size)
    have r2 := later_keep hb1 R0.out
    clear hno
    have kX := block_cell r2
    have fX := block_frozen r2
    go_wp2_with fail
    generalize hV : ((((((((w2.setCell ⟨w.heap.size + 1 + 1, 0, none⟩ _).setCell ⟨w.heap.size + 1 + 1, 1, none⟩ _).setCell ⟨w.heap.size + 1 + 1, 2, none⟩ _).setCell ⟨w.heap.size + 1 + 1, 3, none⟩ _).setCell ⟨w.heap.size + 1 + 1, 4, none⟩ _).setCell ⟨w.heap.size + 1 + 1, 5, none⟩ _).setCell ⟨w.heap.size + 1 + 1, 6, none⟩ _).setCell ⟨w.heap.size + 1 + 1, 7, none⟩ _).setCell ⟨w.heap.size + 1 + 1, 8, none⟩ _ = V
    have hV8 : V = putRow w2 (w.heap.size + 1 + 1) 0 [.int .u8 0, .int .u16 0, .bool false, .int .u8 0, .int .u8 0, .int .u32 0, .int .u32 0, .slice none 0 0, .slice none 0 0] := hV.symm
    have hbV : But (fun b => b = w.heap.size + 1 + 1) w2 V := by rw [hV8]; exact putRow_rb _ _
    have pV := putRow_all [Value.int .u8 0, .int .u16 0, .bool false, .int .u8 0, .int .u8 0, .int .u32 0, .int .u32 0, .slice none 0 0, .slice none 0 0] r2 rfl
    rw [← hV8] at pV
    clear hV hV8 kX fX
    have PV := block_cell pV
    have hwV : Below w.heap.size w V := hw2.trans (hbV.below hw2.size (fun k hk e => by omega))
    exact bodyPost_ret (v := .tuple #[.agg #[.int .u8 0, .int .u16 0, .bool false, .int .u8 0, .int .u8 0, .int .u32 0, .int .u32 0, .slice none 0 0, .slice none 0 0], .int .i64 4]) (by simp [results, Try.results12, go_sem, PV]) rfl ⟨hwV, .inl ⟨by rw [HF.out]; decide, by rw [HF.out]⟩⟩
  · have HE : Hid ((bte os zo.length zm.length) = flt zo.length (20 + (pad (obs os)).length + zm.length)) := if_pos hok
    have hobl := pad_le (obs os) hok.2
    have hobB := By_pad _ (By_obs os hBO hok.2)
    have p2 := later_keep hb1 P0.out
    have m2 := later_keep hb1 M0.out
    have r2 := later_keep hb1 R0.out
    have hw2 := hb0.trans (hb1.mono hb0.size)
    have hob4 := pad_mod (obs os)
    have HOB := hide hobB
    clear hok hobB
    generalize hpd : pad (obs os) = ob at *
    have HPD := hide hpd
    clear hpd
    have hsr2 := (Array.getElem?_eq_some_iff.1 r2).1
    clear P0 M0 R0
    go_upto_region 5 with fail
    go_cut [8] (fun v wx => Rw w2 v ([sp, dp].flatMap b2) wx)
    case first =>
      refine anyT_begin (R := But (fun b => w2.heap.size ≤ b)) 10 rfl (by kernel_rfl) ?_
      have Q0 := (Rw.nil (Later.refl w2)).later (Later.drew w2)
      have md := Q0.block m2
      generalize w2.drew = Wd at *
      have ha : ∀ v1, But (fun b => w2.heap.size ≤ b) Wd v1 → ∀ i, v1.cell? ⟨w.heap.size + 1, i, none⟩ = #[Value.int .u16 sp, .int .u16 dp, .int .u32 sq, .int .u32 ak, .int .u8 fl, .int .u16 wn, .int .u16 ur, .slice aO os.length cO, .slice am zm.length cm][i]? := fun v1 h => block_cell ((h.block (w.heap.size + 1) (Array.getElem?_eq_some_iff.1 md).1 (by omega)).trans md)
      refine anyT_val (But.pre _) 0 rfl (by kernel_rfl) (by kernel_rfl) (by kernel_rfl) (fun _ _ _ _ h => h) rfl ?_; apply Exists.intro; refine ⟨fun v1 hv1 => ?_, ?_⟩; (· (go_simp; rfl)); simp only [Act.put, List.setIfInBounds_toArray, List.set_cons_zero, List.set_cons_succ]
      refine anyT_val (But.pre _) 1 rfl (by kernel_rfl) (by kernel_rfl) (by kernel_rfl) (fun _ _ _ _ h => h) rfl ?_; apply Exists.intro; refine ⟨fun v1 hv1 => ?_, ?_⟩; (· (go_simp; rfl)); simp only [Act.put, List.setIfInBounds_toArray, List.set_cons_zero, List.set_cons_succ]
      refine anyT_val (But.pre _) 2 rfl (by kernel_rfl) (by kernel_rfl) (by kernel_rfl) (fun _ _ _ _ h => h) rfl ?_; apply Exists.intro; refine ⟨fun v1 hv1 => ?_, ?_⟩; (· (go_simp; rfl)); simp only [Act.put, List.setIfInBounds_toArray, List.set_cons_zero, List.set_cons_succ]
      refine anyT_val (But.pre _) 5 rfl (by kernel_rfl) (by kernel_rfl) (by kernel_rfl) (fun _ _ _ _ h => h) rfl ?_; apply Exists.intro; refine ⟨fun v1 hv1 => ?_, ?_⟩; (· (go_simp; rfl)); simp only [Act.put, List.setIfInBounds_toArray, List.set_cons_zero, List.set_cons_succ]
      refine anyT_val (But.pre _) 6 rfl (by kernel_rfl) (by kernel_rfl) (by kernel_rfl) (fun _ _ _ _ h => h) rfl ?_; apply Exists.intro; refine ⟨fun v1 hv1 => ?_, ?_⟩; (· (go_simp; rfl)); simp only [Act.put, List.setIfInBounds_toArray, List.set_cons_zero, List.set_cons_succ]
      refine anyT_one 3 rfl (by kernel_rfl) rfl ?_
      refine wp_enter 38 #[.int .u16 sp] (by go_simp) ?_
      refine (two_any sp hsp Wd).mono ?_
      rintro e w4 ⟨rfl, rfl⟩
      have R4 := Q0.later (later_two Wd (sp / 256) (sp % 256))
      have X4 := Rd.new2 (sp / 256) (sp % 256) 5 Wd
      refine ⟨But.of (later_two Wd (sp / 256) (sp % 256)), ?_⟩
      simp only [Act.put, List.setIfInBounds_toArray, List.set_cons_zero, List.set_cons_succ]
      generalize Wd.alloc (.cells #[.int .u8 (sp / 256), .int .u8 (sp % 256)] 5) = W4 at *
      refine anyT_one 4 rfl (by kernel_rfl) rfl ?_
      obtain ⟨v5, W5, hrun5, R5, bt5⟩ := R4.app 24 _ _ _ X4 (by simp [b2, b4])
      refine wp_app (.tmp 20) (.tmp 23) 24 rfl _ _ rfl rfl _ W5 hrun5 ⟨bt5, ?_⟩
      simp only [Act.put, List.setIfInBounds_toArray, List.set_cons_zero, List.set_cons_succ]
      refine anyT_one 7 rfl (by kernel_rfl) rfl ?_
      refine wp_enter 38 #[.int .u16 dp] (by go_simp) ?_
      refine (two_any dp hdp W5).mono ?_
      rintro e w4 ⟨rfl, rfl⟩
      have R6 := R5.later (later_two W5 (dp / 256) (dp % 256))
      have X6 := Rd.new2 (dp / 256) (dp % 256) 5 W5
      refine ⟨But.of (later_two W5 (dp / 256) (dp % 256)), ?_⟩
      simp only [Act.put, List.setIfInBounds_toArray, List.set_cons_zero, List.set_cons_succ]
      generalize W5.alloc (.cells #[.int .u8 (dp / 256), .int .u8 (dp % 256)] 5) = W6 at *
      refine anyT_one 8 rfl (by kernel_rfl) rfl ?_
      obtain ⟨v7, W7, hrun7, R7, bt7⟩ := R6.app 24 _ _ _ X6 (by simp [b2, b4])
      refine wp_app (.tmp 24) (.tmp 27) 24 rfl _ _ rfl rfl _ W7 hrun7 ⟨bt7, ?_⟩
      simp only [Act.put, List.setIfInBounds_toArray, List.set_cons_zero, List.set_cons_succ]
      refine anyT_one 9 rfl (by kernel_rfl) rfl ?_
      unfold Oper.wp
      go_simp
      refine ⟨But.refl _ _, ?_⟩
      refine anyT_done (by kernel_rfl) ?_
      skip
      clear ha hrun5 hrun7
      go_wp2_with fail
      go_meet
      case rel => exact R7
    case rest =>
      have R3 : Rw w2 _ ([sp, dp].flatMap b2) wc := hcut
      clear hcut
      go_upto_region 6 with fail
      go_cut [8] (fun v wx => Rw w2 v ([sp, dp].flatMap b2 ++ [sq, ak].flatMap b4) wx)
      case first =>
        refine anyT_begin (R := But (fun b => w2.heap.size ≤ b)) 10 rfl (by kernel_rfl) ?_
        have Q0 := R3.later (Later.drew wc)
        have md := Q0.block m2
        generalize wc.drew = Wd at *
        have ha : ∀ v1, But (fun b => w2.heap.size ≤ b) Wd v1 → ∀ i, v1.cell? ⟨w.heap.size + 1, i, none⟩ = #[Value.int .u16 sp, .int .u16 dp, .int .u32 sq, .int .u32 ak, .int .u8 fl, .int .u16 wn, .int .u16 ur, .slice aO os.length cO, .slice am zm.length cm][i]? := fun v1 h => block_cell ((h.block (w.heap.size + 1) (Array.getElem?_eq_some_iff.1 md).1 (by omega)).trans md)
        refine anyT_val (But.pre _) 0 rfl (by kernel_rfl) (by kernel_rfl) (by kernel_rfl) (fun _ _ _ _ h => h) rfl ?_; apply Exists.intro; refine ⟨fun v1 hv1 => ?_, ?_⟩; (· (go_simp; rfl)); simp only [Act.put, List.setIfInBounds_toArray, List.set_cons_zero, List.set_cons_succ]
        refine anyT_val (But.pre _) 1 rfl (by kernel_rfl) (by kernel_rfl) (by kernel_rfl) (fun _ _ _ _ h => h) rfl ?_; apply Exists.intro; refine ⟨fun v1 hv1 => ?_, ?_⟩; (· (go_simp; rfl)); simp only [Act.put, List.setIfInBounds_toArray, List.set_cons_zero, List.set_cons_succ]
        refine anyT_val (But.pre _) 2 rfl (by kernel_rfl) (by kernel_rfl) (by kernel_rfl) (fun _ _ _ _ h => h) rfl ?_; apply Exists.intro; refine ⟨fun v1 hv1 => ?_, ?_⟩; (· (go_simp; rfl)); simp only [Act.put, List.setIfInBounds_toArray, List.set_cons_zero, List.set_cons_succ]
        refine anyT_val (But.pre _) 5 rfl (by kernel_rfl) (by kernel_rfl) (by kernel_rfl) (fun _ _ _ _ h => h) rfl ?_; apply Exists.intro; refine ⟨fun v1 hv1 => ?_, ?_⟩; (· (go_simp; rfl)); simp only [Act.put, List.setIfInBounds_toArray, List.set_cons_zero, List.set_cons_succ]
        refine anyT_val (But.pre _) 6 rfl (by kernel_rfl) (by kernel_rfl) (by kernel_rfl) (fun _ _ _ _ h => h) rfl ?_; apply Exists.intro; refine ⟨fun v1 hv1 => ?_, ?_⟩; (· (go_simp; rfl)); simp only [Act.put, List.setIfInBounds_toArray, List.set_cons_zero, List.set_cons_succ]
        refine anyT_one 3 rfl (by kernel_rfl) rfl ?_
        refine wp_enter 39 #[.int .u32 sq] (by go_simp) ?_
        refine (four_any sq hsq Wd).mono ?_
        rintro e w4 ⟨rfl, rfl⟩
        have R4 := Q0.later (later_four Wd (sq / 16777216) (sq / 65536 % 256) (sq / 256 % 256) (sq % 256))
        have X4 := Rd.new4 (sq / 16777216) (sq / 65536 % 256) (sq / 256 % 256) (sq % 256) 5 Wd
        refine ⟨But.of (later_four Wd (sq / 16777216) (sq / 65536 % 256) (sq / 256 % 256) (sq % 256)), ?_⟩
        simp only [Act.put, List.setIfInBounds_toArray, List.set_cons_zero, List.set_cons_succ]
        generalize Wd.alloc (.cells #[.int .u8 (sq / 16777216), .int .u8 (sq / 65536 % 256), .int .u8 (sq / 256 % 256), .int .u8 (sq % 256)] 5) = W4 at *
        refine anyT_one 4 rfl (by kernel_rfl) rfl ?_
        obtain ⟨v5, W5, hrun5, R5, bt5⟩ := R4.app 24 _ _ _ X4 (by simp [b2, b4])
        refine wp_app (.tmp 29) (.tmp 32) 24 rfl _ _ rfl rfl _ W5 hrun5 ⟨bt5, ?_⟩
        simp only [Act.put, List.setIfInBounds_toArray, List.set_cons_zero, List.set_cons_succ]
        refine anyT_one 7 rfl (by kernel_rfl) rfl ?_
        refine wp_enter 39 #[.int .u32 ak] (by go_simp) ?_
        refine (four_any ak hak W5).mono ?_
        rintro e w4 ⟨rfl, rfl⟩
        have R6 := R5.later (later_four W5 (ak / 16777216) (ak / 65536 % 256) (ak / 256 % 256) (ak % 256))
        have X6 := Rd.new4 (ak / 16777216) (ak / 65536 % 256) (ak / 256 % 256) (ak % 256) 5 W5
        refine ⟨But.of (later_four W5 (ak / 16777216) (ak / 65536 % 256) (ak / 256 % 256) (ak % 256)), ?_⟩
        simp only [Act.put, List.setIfInBounds_toArray, List.set_cons_zero, List.set_cons_succ]
        generalize W5.alloc (.cells #[.int .u8 (ak / 16777216), .int .u8 (ak / 65536 % 256), .int .u8 (ak / 256 % 256), .int .u8 (ak % 256)] 5) = W6 at *
        refine anyT_one 8 rfl (by kernel_rfl) rfl ?_
        obtain ⟨v7, W7, hrun7, R7, bt7⟩ := R6.app 24 _ _ _ X6 (by simp [b2, b4])
        refine wp_app (.tmp 33) (.tmp 36) 24 rfl _ _ rfl rfl _ W7 hrun7 ⟨bt7, ?_⟩
        simp only [Act.put, List.setIfInBounds_toArray, List.set_cons_zero, List.set_cons_succ]
        refine anyT_one 9 rfl (by kernel_rfl) rfl ?_
        unfold Oper.wp
        go_simp
        refine ⟨But.refl _ _, ?_⟩
        refine anyT_done (by kernel_rfl) ?_
        rw [four_b4 sq hsq, four_b4 ak hak, List.append_assoc, show b4 sq ++ b4 ak = [sq, ak].flatMap b4 from by simp] at R7
        clear ha hrun5 hrun7
        go_wp2_with fail
        go_meet
        case rel => exact R7
      case rest =>
        have R8 : Rw w2 _ ([sp, dp].flatMap b2 ++ [sq, ak].flatMap b4) wc := hcut
        clear hcut R3
        generalize hys : [sp, dp].flatMap b2 ++ [sq, ak].flatMap b4 = ys8 at *
        have hyl : ys8.length = 12 := by rw [← hys]; simp [b2, b4]
        have HYS := hide hys
        have HYL := hide hyl
        clear hys hyl
        have mc := block_cell (R8.block m2)
        have hol : (ob.length : Int) ≤ 40 := by omega
        have hq : (20 + (ob.length : Int)).tdiv 4 = (20 + ob.length) / 4 := Int.tdiv_eq_ediv_of_nonneg (by omega)
        have R9 := R8.later (later_two wc ((20 + ob.length) / 4 * 16) fl)
        have X9 := Rd.new2 ((20 + (ob.length : Int)) / 4 * 16) fl 5 wc
        go_wp2_with (at_builtin; go_loud (refine wpList_rw _ rfl (.tmp 38) (.tmp 47) rfl R9 rfl _ _ _ rfl X9 (by rw [HYL.out]; simp) ?_; intro v10 W10 R10; refine Hid.out ?_))
        have m10 := block_cell (R10.block m2)
        clear mc R8 R9 X9
        show wpList _ _ _ _ _ _
        go_wp2_with fail
        refine (two_any wn hwn W10).mono ?_
        rintro e w4 ⟨rfl, rfl⟩
        have R11 := R10.later (later_two W10 (wn / 256) (wn % 256))
        have X11 := Rd.new2 (wn / 256) (wn % 256) 5 W10
        clear m10 R10
        generalize W10.alloc (.cells #[.int .u8 (wn / 256), .int .u8 (wn % 256)] 5) = W11 at *
        generalize some (⟨W10.heap.size, 0, none⟩ : Addr) = a11 at *
        go_wp2_with (at_builtin; go_loud (refine wpList_rw _ rfl (.tmp 49) (.tmp 52) rfl R11 rfl _ _ _ rfl X11 (by simp only [List.length_append]; rw [HYL.out]; simp) ?_; intro v12 W12 R12; refine Hid.out ?_))
        have R13 := R12.later (later_two W12 0 0)
        have X13 := Rd.new2 0 0 5 W12
        show wpList _ _ _ _ _ _
        go_wp2_with (at_builtin; go_loud (refine wpList_rw _ rfl (.tmp 53) (.tmp 54) rfl R13 rfl _ _ _ rfl X13 (by simp only [List.length_append]; rw [HYL.out]; simp) ?_; intro v14 W14 R14; refine Hid.out ?_))
        have m14 := block_cell (R14.block m2)
        clear R11 X11 R12 R13 X13
        show wpList _ _ _ _ _ _
        go_wp2_with fail
        refine (two_any ur hur W14).mono ?_
        rintro e w4 ⟨rfl, rfl⟩
        have R15 := R14.later (later_two W14 (ur / 256) (ur % 256))
        have X15 := Rd.new2 (ur / 256) (ur % 256) 5 W14
        clear m14 R14
        generalize W14.alloc (.cells #[.int .u8 (ur / 256), .int .u8 (ur % 256)] 5) = W15 at *
        generalize some (⟨W14.heap.size, 0, none⟩ : Addr) = a15 at *
        go_wp2_with (at_builtin; go_loud (refine wpList_rw _ rfl (.tmp 56) (.tmp 59) rfl R15 rfl _ _ _ rfl X15 (by simp only [List.length_append]; rw [HYL.out]; simp) ?_; intro v16 W16 R16; refine Hid.out ?_))
        have X16 := hOO.rd.below R16.2
        show wpList _ _ _ _ _ _
        go_wp2_with (at_builtin; go_loud (refine wpList_rw _ rfl (.tmp 60) (.tmp 61) rfl R16 rfl _ _ _ rfl X16 (by simp only [List.length_append]; rw [HYL.out]; simp; omega) ?_; intro v17 W17 R17; refine Hid.out ?_))
        have m17 := block_cell (R17.block m2)
        have X17 : Rd w.heap.size W17 (.slice am zm.length cm) zm := hIm.below (hw2.trans (R17.2.mono hw2.size))
        clear R15 X15 R16 X16
        show wpList _ _ _ _ _ _
        go_wp2_with (at_builtin; go_loud (refine wpList_rw _ rfl (.tmp 63) (.tmp 65) rfl R17 rfl _ _ _ rfl X17 (by simp only [List.length_append]; rw [HYL.out]; simp; omega) ?_; intro v18 W18 R18; refine Hid.out ?_))
        have hlist : ys8 ++ [(20 + (ob.length : Int)) / 4 * 16, fl] ++ [wn / 256, wn % 256] ++ [0, 0] ++ [ur / 256, ur % 256] ++ ob ++ zm = tcp0 sp dp sq ak fl wn ur ob zm := by rw [← HYS.out]; simp [tcp0, b2, b4]
        rw [hlist] at R18
        have p18 := R18.block p2
        have r18 := R18.block r2
        have PP := block_cell p18
        have hO18 := R18.ow
        have hw18 := hw2.trans (R18.2.mono hw2.size)
        have hBt := By_tcp0 sp dp sq ak fl wn ur ob zm hsp hdp hsq hak hfl hwn hur hobl HOB.out hBm
        have HLT := hide (tcp0_length sp dp sq ak fl wn ur ob zm)
        have HLC := hide (tcp_length sp dp sq ak fl wn ur ob src dst zm)
        have HUD : Hid (putAt2 (tcp0 sp dp sq ak fl wn ur ob zm) 16 (Mt.cks (psd src dst 6 (tcp0 sp dp sq ak fl wn ur ob zm).length ++ tcp0 sp dp sq ak fl wn ur ob zm)) = tcp sp dp sq ak fl wn ur ob src dst zm) := by show _ = _; unfold putAt2 tcp; rw [if_pos (by rw [HLT.out]; omega), HLT.out]; rfl
        clear m17 X17 R17 R18 hlist HYS HYL p2 m2 r2 hOO hq
        generalize tcp0 sp dp sq ak fl wn ur ob zm = bb at *
        obtain ⟨a18, c18, rfl, _, _⟩ := hO18.slice
        show wpList _ _ _ _ _ _
        go_wp2_with fail
        refine (rwith_any tos id ttl proto src dst 6 keep _ _ ad ld cd zo [] W18 ((hIo.below hw18).mono hw18.size) (rd_zero W18) h1 (by simp)).mono ?_
        rintro e W19 ⟨hb19, ⟨hf, rfl⟩ | ⟨hf, a7, c7, a8, c8, rfl, hO1, hD1⟩⟩
        · obtain ⟨f4, f4'⟩ := flt_none zo.length hf (20 + ob.length + zm.length)
          have HF := hide (HE.out.trans f4')
          rw [show ([] : List Int).length = 0 from rfl, f4]
          clear f4 f4' hf HE PP
          have lq : Later W19 (W19.alloc (.cells #[.int .u8 0, .int .u16 0, .bool false, .int .u8 0, .int .u8 0, .int .u32 0, .int .u32 0, .slice none 0 0, .slice none 0 0] 26)) := (Below.refl _ _).alloc (Nat.le_refl _) _
          have l19 := Later.trans hb19 lq
          have r20 := later_keep l19 r18
          have hw20 := hw18.trans (l19.mono hw18.size)
          have kX := block_cell r20
          have fX := block_frozen r20
          go_wp2_with fail
          generalize W19.alloc (.cells #[.int .u8 0, .int .u16 0, .bool false, .int .u8 0, .int .u8 0, .int .u32 0, .int .u32 0, .slice none 0 0, .slice none 0 0] 26) = W20 at *
          generalize hV : ((((((((W20.setCell ⟨w.heap.size + 1 + 1, 0, none⟩ _).setCell ⟨w.heap.size + 1 + 1, 1, none⟩ _).setCell ⟨w.heap.size + 1 + 1, 2, none⟩ _).setCell ⟨w.heap.size + 1 + 1, 3, none⟩ _).setCell ⟨w.heap.size + 1 + 1, 4, none⟩ _).setCell ⟨w.heap.size + 1 + 1, 5, none⟩ _).setCell ⟨w.heap.size + 1 + 1, 6, none⟩ _).setCell ⟨w.heap.size + 1 + 1, 7, none⟩ _).setCell ⟨w.heap.size + 1 + 1, 8, none⟩ _ = V
          have hV8 : V = putRow W20 (w.heap.size + 1 + 1) 0 [.int .u8 0, .int .u16 0, .bool false, .int .u8 0, .int .u8 0, .int .u32 0, .int .u32 0, .slice none 0 0, .slice none 0 0] := hV.symm
          have hbV : But (fun b => b = w.heap.size + 1 + 1) W20 V := by rw [hV8]; exact putRow_rb _ _
          have pV := putRow_all [Value.int .u8 0, .int .u16 0, .bool false, .int .u8 0, .int .u8 0, .int .u32 0, .int .u32 0, .slice none 0 0, .slice none 0 0] r20 rfl
          rw [← hV8] at pV
          clear hV hV8 kX fX
          have PV := block_cell pV
          have hwV : Below w.heap.size w V := hw20.trans (hbV.below hw20.size (fun k hk e => by omega))
          exact bodyPost_ret (v := .tuple #[.agg #[.int .u8 0, .int .u16 0, .bool false, .int .u8 0, .int .u8 0, .int .u32 0, .int .u32 0, .slice none 0 0, .slice none 0 0], .int .i64 4]) (by simp [results, Try.results12, go_sem, PV]) rfl ⟨hwV, .inl ⟨by rw [HF.out]; decide, by rw [HF.out]⟩⟩
        · have f0 := HE.out.trans (flt_some zo.length hf (20 + ob.length + zm.length))
          have HE0 := HE
          clear hf HE PP
          rw [show ([] : List Int).length = 0 from rfl] at *
          have lq : Later W19 (W19.alloc (.cells #[.int .u8 tos, .int .u16 id, .bool keep, .int .u8 ttl, .int .u8 6, .int .u32 src, .int .u32 dst, .slice a7 zo.length c7, .slice a8 0 c8] 26)) := (Below.refl _ _).alloc (Nat.le_refl _) _
          have l19 := Later.trans hb19 lq
          have r20 := later_keep l19 r18
          have p20 := later_keep l19 p18
          have hO20 := hO18.later l19
          have hw20 := hw18.trans (l19.mono hw18.size)
          have PP := block_cell p20
          have hbl : (bb.length : Int) = 20 + ob.length + zm.length := by have := HLT.out; omega
          by_cases c3 : 65535 < 20 + zo.length + (20 + ob.length + zm.length)
          · have t3 : (65535 : Int) < 20 + zo.length + bb.length := by omega
            rw [if_pos c3] at f0
            have HF := hide f0
            have hbm : bb.length ≤ 140737488355400 := by omega
            clear f0 c3 hbl
            have kX := block_cell r20
            have fX := block_frozen r20
            go_wp2_with fail
            generalize W19.alloc (.cells #[.int .u8 tos, .int .u16 id, .bool keep, .int .u8 ttl, .int .u8 6, .int .u32 src, .int .u32 dst, .slice a7 zo.length c7, .slice a8 0 c8] 26) = W20 at *
            generalize hV : ((((((((W20.setCell ⟨w.heap.size + 1 + 1, 0, none⟩ _).setCell ⟨w.heap.size + 1 + 1, 1, none⟩ _).setCell ⟨w.heap.size + 1 + 1, 2, none⟩ _).setCell ⟨w.heap.size + 1 + 1, 3, none⟩ _).setCell ⟨w.heap.size + 1 + 1, 4, none⟩ _).setCell ⟨w.heap.size + 1 + 1, 5, none⟩ _).setCell ⟨w.heap.size + 1 + 1, 6, none⟩ _).setCell ⟨w.heap.size + 1 + 1, 7, none⟩ _).setCell ⟨w.heap.size + 1 + 1, 8, none⟩ _ = V
            have hV8 : V = putRow W20 (w.heap.size + 1 + 1) 0 [.int .u8 0, .int .u16 0, .bool false, .int .u8 0, .int .u8 0, .int .u32 0, .int .u32 0, .slice none 0 0, .slice none 0 0] := hV.symm
            have hbV : But (fun b => b = w.heap.size + 1 + 1) W20 V := by rw [hV8]; exact putRow_rb _ _
            have pV := putRow_all [Value.int .u8 0, .int .u16 0, .bool false, .int .u8 0, .int .u8 0, .int .u32 0, .int .u32 0, .slice none 0 0, .slice none 0 0] r20 rfl
            rw [← hV8] at pV
            clear hV hV8 kX fX
            have PV := block_cell pV
            have hwV : Below w.heap.size w V := hw20.trans (hbV.below hw20.size (fun k hk e => by omega))
            exact bodyPost_ret (v := .tuple #[.agg #[.int .u8 0, .int .u16 0, .bool false, .int .u8 0, .int .u8 0, .int .u32 0, .int .u32 0, .slice none 0 0, .slice none 0 0], .int .i64 8]) (by simp [results, Try.results12, go_sem, PV]) rfl ⟨hwV, .inl ⟨by rw [HF.out]; decide, by rw [HF.out]⟩⟩
          · have t3 : ¬ (65535 : Int) < 20 + zo.length + bb.length := by omega
            rw [if_neg c3] at f0
            have HF := hide f0
            have HE2 : Hid (flt zo.length (20 + ob.length + zm.length) = 0) := HE0.out.symm.trans f0
            have hz : bb.length ≤ 65535 := by omega
            clear f0 hbl
            go_wp2_with fail
            clear PP lq l19
            generalize W19.alloc (.cells #[.int .u8 tos, .int .u16 id, .bool keep, .int .u8 ttl, .int .u8 6, .int .u32 src, .int .u32 dst, .slice a7 zo.length c7, .slice a8 0 c8] 26) = W20 at *
            refine (rsum3_any tos id ttl proto src dst 6 keep _ _ _ bb W20 hBt hO20.rd (by omega) (by omega) hsr hds).mono ?_
            rintro e W21 ⟨rfl, hb21⟩
            have hcb := Mt.cks_bd (psd src dst 6 bb.length ++ bb)
            generalize Mt.cks (psd src dst 6 bb.length ++ bb) = c at *
            go_wp2_with fail
            refine (rput16_any _ bb 16 c (by omega) (by omega) W21 (hO20.later hb21).rd hcb).mono ?_
            rintro e W22 ⟨rv, rfl, hO22, hb22⟩
            rw [HUD.out] at hO22
            obtain ⟨a22, c22, rfl, _, _⟩ := hO22.slice
            have l22 : Later W20 W22 := Later.trans hb21 hb22
            have PP := block_cell (later_keep l22 p20)
            go_wp2_with fail
            have rn := later_keep l22 r20
            have hwn' := hw20.trans (l22.mono hw20.size)
            refine (rwith_any tos id ttl proto src dst 6 keep _ _ ad ld cd zo (tcp sp dp sq ak fl wn ur ob src dst zm) W22 ((hIo.below hwn').mono hwn'.size) hO22.rd h1 (by rw [HLC.out]; omega)).mono ?_
            rw [HLC.out, show flt zo.length (20 + ob.length + zm.length) = 0 from HE2.out]
            rintro e WX ⟨hbX, ⟨hx, _⟩ | ⟨_, a9, c9, ad9, cd9, rfl, hO9, hD9⟩⟩
            case inl => exact absurd rfl hx
            have rX := later_keep hbX rn
            have hwX := hwn'.trans (hbX.mono hwn'.size)
            clear PP
            have kX := block_cell rX
            have fX := block_frozen rX
            go_wp2_with fail
            generalize hV : ((((((((WX.setCell ⟨w.heap.size + 1 + 1, 0, none⟩ _).setCell ⟨w.heap.size + 1 + 1, 1, none⟩ _).setCell ⟨w.heap.size + 1 + 1, 2, none⟩ _).setCell ⟨w.heap.size + 1 + 1, 3, none⟩ _).setCell ⟨w.heap.size + 1 + 1, 4, none⟩ _).setCell ⟨w.heap.size + 1 + 1, 5, none⟩ _).setCell ⟨w.heap.size + 1 + 1, 6, none⟩ _).setCell ⟨w.heap.size + 1 + 1, 7, none⟩ _).setCell ⟨w.heap.size + 1 + 1, 8, none⟩ _ = V
            have hV8 : V = putRow WX (w.heap.size + 1 + 1) 0 [.int .u8 tos, .int .u16 id, .bool keep, .int .u8 ttl, .int .u8 6, .int .u32 src, .int .u32 dst, .slice a9 zo.length c9, .slice ad9 (20 + ob.length + zm.length) cd9] := hV.symm
            have hbV : But (fun b => b = w.heap.size + 1 + 1) WX V := by rw [hV8]; exact putRow_rb _ _
            have pV := putRow_all [Value.int .u8 tos, .int .u16 id, .bool keep, .int .u8 ttl, .int .u8 6, .int .u32 src, .int .u32 dst, .slice a9 zo.length c9, .slice ad9 (20 + ob.length + zm.length) cd9] rX rfl
            rw [← hV8] at pV
            clear hV hV8 kX fX
            have PV := block_cell pV
            have hwV : Below w.heap.size w V := hwX.trans (hbV.below hwX.size (fun k hk e => by omega))
            exact bodyPost_ret (v := .tuple #[.agg #[.int .u8 tos, .int .u16 id, .bool keep, .int .u8 ttl, .int .u8 6, .int .u32 src, .int .u32 dst, .slice a9 zo.length c9, .slice ad9 (20 + ob.length + zm.length) cd9], .int .i64 0]) (by simp [results, Try.results12, go_sem, PV]) rfl ⟨hwV, .inr ⟨HF.out, a9, c9, ad9, cd9, by rw [HPD.out], (hO9.apart rX (by decide) hbV).mono hwn'.size, by rw [HPD.out]; exact (hD9.apart rX (by decide) hbV).mono hwn'.size⟩⟩



def zI (f x : Int) : Int := if f = 0 then x else 0
def zB (f : Int) (x : Bool) : Bool := if f = 0 then x else false
def zL (f : Int) (x : List Int) : List Int := if f = 0 then x else []
theorem zI_no {f x : Int} (h : f ≠ 0) : zI f x = 0 := if_neg h
theorem zB_no {f : Int} {x : Bool} (h : f ≠ 0) : zB f x = false := if_neg h
theorem zL_no {f : Int} {x : List Int} (h : f ≠ 0) : zL f x = [] := if_neg h
theorem zI_yes {f x : Int} (h : f = 0) : zI f x = x := if_pos h
theorem zB_yes {f : Int} {x : Bool} (h : f = 0) : zB f x = x := if_pos h
theorem zL_yes {f : Int} {x : List Int} (h : f = 0) : zL f x = x := if_pos h
theorem By_zL {f : Int} {x : List Int} (h : f = 0 → Mt.By x) : Mt.By (zL f x) := by unfold zL; split; (rename_i h0; exact h h0); exact Mt.By.nil

theorem buildTcp_v (tos id ttl proto src dst : Int) (keep : Bool) (so : Value) (ad : Option Addr) (ld cd : Nat) (zo : List Int) (sp dp sq ak fl wn ur : Int) (sO sm : Value) (os : List Opt) (zm : List Int) (w : World) (hBo : Mt.By zo) (hIo : Rd w.heap.size w so zo) (hBm : Mt.By zm) (hIm : Rd w.heap.size w sm zm) (hBO : ByO os) (hIO : RdO w.heap.size w sO os) (hlO : ∀ o ∈ os, o.2.length ≤ 140737488351232) (h1 : zo.length ≤ 140737488351232) (h2 : zm.length ≤ 140737488351232) (ht : 0 ≤ tos ∧ tos ≤ 255) (hid : 0 ≤ id ∧ id ≤ 65535) (htt : 0 ≤ ttl ∧ ttl ≤ 255) (hsr : 0 ≤ src ∧ src ≤ 4294967295) (hds : 0 ≤ dst ∧ dst ≤ 4294967295) (hsp : 0 ≤ sp ∧ sp ≤ 65535) (hdp : 0 ≤ dp ∧ dp ≤ 65535) (hsq : 0 ≤ sq ∧ sq ≤ 4294967295) (hak : 0 ≤ ak ∧ ak ≤ 4294967295) (hfl : 0 ≤ fl ∧ fl ≤ 255) (hwn : 0 ≤ wn ∧ wn ≤ 65535) (hur : 0 ≤ ur ∧ ur ≤ 65535) :
    Calls Try.prog 11 #[.agg #[.int .u8 tos, .int .u16 id, .bool keep, .int .u8 ttl, .int .u8 proto, .int .u32 src, .int .u32 dst, so, .slice ad ld cd], .agg #[.int .u16 sp, .int .u16 dp, .int .u32 sq, .int .u32 ak, .int .u8 fl, .int .u16 wn, .int .u16 ur, sO, sm]] w fun e w' => Below w.heap.size w w' ∧ ∃ a7 c7 a8 c8, e = .returned (.tuple #[.agg #[.int .u8 (zI (bte os zo.length zm.length) tos), .int .u16 (zI (bte os zo.length zm.length) id), .bool (zB (bte os zo.length zm.length) keep), .int .u8 (zI (bte os zo.length zm.length) ttl), .int .u8 (zI (bte os zo.length zm.length) 6), .int .u32 (zI (bte os zo.length zm.length) src), .int .u32 (zI (bte os zo.length zm.length) dst), .slice a7 (zL (bte os zo.length zm.length) zo).length c7, .slice a8 (zL (bte os zo.length zm.length) (tcp sp dp sq ak fl wn ur (pad (obs os)) src dst zm)).length c8], .int .i64 (bte os zo.length zm.length)]) ∧ Ow w.heap.size w' (.slice a7 (zL (bte os zo.length zm.length) zo).length c7) (zL (bte os zo.length zm.length) zo) ∧ Ow w.heap.size w' (.slice a8 (zL (bte os zo.length zm.length) (tcp sp dp sq ak fl wn ur (pad (obs os)) src dst zm)).length c8) (zL (bte os zo.length zm.length) (tcp sp dp sq ak fl wn ur (pad (obs os)) src dst zm)) := by
  refine (buildTcp_any tos id ttl proto src dst sp dp sq ak fl wn ur keep so _ sO sm zo zm os w hBo hIo hBm hIm hBO hIO (fun o ho => by have := hlO o ho; omega) (by omega) (by omega) ht hid htt hsr hds hsp hdp hsq hak hfl hwn hur).mono ?_
  rintro e w' ⟨hb, ⟨hf, rfl⟩ | ⟨hf, ao, co, ad, cd, rfl, hO, hD⟩⟩
  · rw [zI_no hf, zI_no hf, zI_no hf, zI_no hf, zI_no hf, zI_no hf, zB_no hf, zL_no hf, zL_no hf]
    exact ⟨hb, none, 0, none, 0, rfl, .inl ⟨rfl, rfl⟩, .inl ⟨rfl, rfl⟩⟩
  · rw [zI_yes hf, zI_yes hf, zI_yes hf, zI_yes hf, zI_yes hf, zI_yes hf, zB_yes hf, zL_yes hf, zL_yes hf, tcp_length, hf]
    exact ⟨hb, _, _, _, _, rfl, hO, hD⟩

theorem rbuildTcp_v (tos id ttl proto src dst : Int) (keep : Bool) (so : Value) (ad : Option Addr) (ld cd : Nat) (zo : List Int) (sp dp sq ak fl wn ur : Int) (sO sm : Value) (os : List Opt) (zm : List Int) (w : World) (hBo : Mt.By zo) (hIo : Rd w.heap.size w so zo) (hBm : Mt.By zm) (hIm : Rd w.heap.size w sm zm) (hBO : ByO os) (hIO : RdO w.heap.size w sO os) (hlO : ∀ o ∈ os, o.2.length ≤ 140737488351232) (h1 : zo.length ≤ 140737488351232) (h2 : zm.length ≤ 140737488351232) (ht : 0 ≤ tos ∧ tos ≤ 255) (hid : 0 ≤ id ∧ id ≤ 65535) (htt : 0 ≤ ttl ∧ ttl ≤ 255) (hsr : 0 ≤ src ∧ src ≤ 4294967295) (hds : 0 ≤ dst ∧ dst ≤ 4294967295) (hsp : 0 ≤ sp ∧ sp ≤ 65535) (hdp : 0 ≤ dp ∧ dp ≤ 65535) (hsq : 0 ≤ sq ∧ sq ≤ 4294967295) (hak : 0 ≤ ak ∧ ak ≤ 4294967295) (hfl : 0 ≤ fl ∧ fl ≤ 255) (hwn : 0 ≤ wn ∧ wn ≤ 65535) (hur : 0 ≤ ur ∧ ur ≤ 65535) :
    Calls Try.prog 12 #[.agg #[.int .u8 tos, .int .u16 id, .bool keep, .int .u8 ttl, .int .u8 proto, .int .u32 src, .int .u32 dst, so, .slice ad ld cd], .agg #[.int .u16 sp, .int .u16 dp, .int .u32 sq, .int .u32 ak, .int .u8 fl, .int .u16 wn, .int .u16 ur, sO, sm]] w fun e w' => Below w.heap.size w w' ∧ ∃ a7 c7 a8 c8, e = .returned (.tuple #[.agg #[.int .u8 (zI (bte os zo.length zm.length) tos), .int .u16 (zI (bte os zo.length zm.length) id), .bool (zB (bte os zo.length zm.length) keep), .int .u8 (zI (bte os zo.length zm.length) ttl), .int .u8 (zI (bte os zo.length zm.length) 6), .int .u32 (zI (bte os zo.length zm.length) src), .int .u32 (zI (bte os zo.length zm.length) dst), .slice a7 (zL (bte os zo.length zm.length) zo).length c7, .slice a8 (zL (bte os zo.length zm.length) (tcp sp dp sq ak fl wn ur (pad (obs os)) src dst zm)).length c8], .int .i64 (bte os zo.length zm.length)]) ∧ Ow w.heap.size w' (.slice a7 (zL (bte os zo.length zm.length) zo).length c7) (zL (bte os zo.length zm.length) zo) ∧ Ow w.heap.size w' (.slice a8 (zL (bte os zo.length zm.length) (tcp sp dp sq ak fl wn ur (pad (obs os)) src dst zm)).length c8) (zL (bte os zo.length zm.length) (tcp sp dp sq ak fl wn ur (pad (obs os)) src dst zm)) := by
  refine (rbuildTcp_any tos id ttl proto src dst sp dp sq ak fl wn ur keep so sO sm ad ld cd zo zm os w hIo hBm hIm hBO hIO (by omega) (by omega) hsr hds hsp hdp hsq hak hfl hwn hur).mono ?_
  rintro e w' ⟨hb, ⟨hf, rfl⟩ | ⟨hf, ao, co, ad, cd, rfl, hO, hD⟩⟩
  · rw [zI_no hf, zI_no hf, zI_no hf, zI_no hf, zI_no hf, zI_no hf, zB_no hf, zL_no hf, zL_no hf]
    exact ⟨hb, none, 0, none, 0, rfl, .inl ⟨rfl, rfl⟩, .inl ⟨rfl, rfl⟩⟩
  · rw [zI_yes hf, zI_yes hf, zI_yes hf, zI_yes hf, zI_yes hf, zI_yes hf, zB_yes hf, zL_yes hf, zL_yes hf, tcp_length, hf]
    exact ⟨hb, _, _, _, _, rfl, hO, hD⟩

theorem buildUdp_v (tos id ttl proto src dst : Int) (keep : Bool) (so : Value) (ad : Option Addr) (ld cd : Nat) (zo : List Int) (sp dp : Int) (bare : Bool) (sm : Value) (zm : List Int) (w : World) (hBo : Mt.By zo) (hIo : Rd w.heap.size w so zo) (hBm : Mt.By zm) (hIm : Rd w.heap.size w sm zm) (h1 : zo.length ≤ 140737488351232) (h2 : zm.length ≤ 140737488351232) (ht : 0 ≤ tos ∧ tos ≤ 255) (hid : 0 ≤ id ∧ id ≤ 65535) (htt : 0 ≤ ttl ∧ ttl ≤ 255) (hsr : 0 ≤ src ∧ src ≤ 4294967295) (hds : 0 ≤ dst ∧ dst ≤ 4294967295) (hsp : 0 ≤ sp ∧ sp ≤ 65535) (hdp : 0 ≤ dp ∧ dp ≤ 65535) :
    Calls Try.prog 13 #[.agg #[.int .u8 tos, .int .u16 id, .bool keep, .int .u8 ttl, .int .u8 proto, .int .u32 src, .int .u32 dst, so, .slice ad ld cd], .agg #[.int .u16 sp, .int .u16 dp, .bool bare, sm]] w fun e w' => Below w.heap.size w w' ∧ ∃ a7 c7 a8 c8, e = .returned (.tuple #[.agg #[.int .u8 (zI (flt zo.length (8 + zm.length)) tos), .int .u16 (zI (flt zo.length (8 + zm.length)) id), .bool (zB (flt zo.length (8 + zm.length)) keep), .int .u8 (zI (flt zo.length (8 + zm.length)) ttl), .int .u8 (zI (flt zo.length (8 + zm.length)) 17), .int .u32 (zI (flt zo.length (8 + zm.length)) src), .int .u32 (zI (flt zo.length (8 + zm.length)) dst), .slice a7 (zL (flt zo.length (8 + zm.length)) zo).length c7, .slice a8 (zL (flt zo.length (8 + zm.length)) (udp sp dp bare src dst zm)).length c8], .int .i64 (flt zo.length (8 + zm.length))]) ∧ Ow w.heap.size w' (.slice a7 (zL (flt zo.length (8 + zm.length)) zo).length c7) (zL (flt zo.length (8 + zm.length)) zo) ∧ Ow w.heap.size w' (.slice a8 (zL (flt zo.length (8 + zm.length)) (udp sp dp bare src dst zm)).length c8) (zL (flt zo.length (8 + zm.length)) (udp sp dp bare src dst zm)) := by
  refine (buildUdp_any tos id ttl proto src dst sp dp keep bare so _ sm zo zm w hBo hIo hBm hIm (by omega) (by omega) ht hid htt hsr hds hsp hdp).mono ?_
  rintro e w' ⟨hb, ⟨hf, rfl⟩ | ⟨hf, ao, co, ad, cd, rfl, hO, hD⟩⟩
  · rw [zI_no hf, zI_no hf, zI_no hf, zI_no hf, zI_no hf, zI_no hf, zB_no hf, zL_no hf, zL_no hf]
    exact ⟨hb, none, 0, none, 0, rfl, .inl ⟨rfl, rfl⟩, .inl ⟨rfl, rfl⟩⟩
  · rw [zI_yes hf, zI_yes hf, zI_yes hf, zI_yes hf, zI_yes hf, zI_yes hf, zB_yes hf, zL_yes hf, zL_yes hf, udp_length, hf]
    exact ⟨hb, _, _, _, _, rfl, hO, hD⟩

theorem rbuildUdp_v (tos id ttl proto src dst : Int) (keep : Bool) (so : Value) (ad : Option Addr) (ld cd : Nat) (zo : List Int) (sp dp : Int) (bare : Bool) (sm : Value) (zm : List Int) (w : World) (hBo : Mt.By zo) (hIo : Rd w.heap.size w so zo) (hBm : Mt.By zm) (hIm : Rd w.heap.size w sm zm) (h1 : zo.length ≤ 140737488351232) (h2 : zm.length ≤ 140737488351232) (ht : 0 ≤ tos ∧ tos ≤ 255) (hid : 0 ≤ id ∧ id ≤ 65535) (htt : 0 ≤ ttl ∧ ttl ≤ 255) (hsr : 0 ≤ src ∧ src ≤ 4294967295) (hds : 0 ≤ dst ∧ dst ≤ 4294967295) (hsp : 0 ≤ sp ∧ sp ≤ 65535) (hdp : 0 ≤ dp ∧ dp ≤ 65535) :
    Calls Try.prog 14 #[.agg #[.int .u8 tos, .int .u16 id, .bool keep, .int .u8 ttl, .int .u8 proto, .int .u32 src, .int .u32 dst, so, .slice ad ld cd], .agg #[.int .u16 sp, .int .u16 dp, .bool bare, sm]] w fun e w' => Below w.heap.size w w' ∧ ∃ a7 c7 a8 c8, e = .returned (.tuple #[.agg #[.int .u8 (zI (flt zo.length (8 + zm.length)) tos), .int .u16 (zI (flt zo.length (8 + zm.length)) id), .bool (zB (flt zo.length (8 + zm.length)) keep), .int .u8 (zI (flt zo.length (8 + zm.length)) ttl), .int .u8 (zI (flt zo.length (8 + zm.length)) 17), .int .u32 (zI (flt zo.length (8 + zm.length)) src), .int .u32 (zI (flt zo.length (8 + zm.length)) dst), .slice a7 (zL (flt zo.length (8 + zm.length)) zo).length c7, .slice a8 (zL (flt zo.length (8 + zm.length)) (udp sp dp bare src dst zm)).length c8], .int .i64 (flt zo.length (8 + zm.length))]) ∧ Ow w.heap.size w' (.slice a7 (zL (flt zo.length (8 + zm.length)) zo).length c7) (zL (flt zo.length (8 + zm.length)) zo) ∧ Ow w.heap.size w' (.slice a8 (zL (flt zo.length (8 + zm.length)) (udp sp dp bare src dst zm)).length c8) (zL (flt zo.length (8 + zm.length)) (udp sp dp bare src dst zm)) := by
  refine (rbuildUdp_any tos id ttl proto src dst sp dp keep bare so sm ad ld cd zo zm w hIo hBm hIm (by omega) (by omega) hsr hds hsp hdp).mono ?_
  rintro e w' ⟨hb, ⟨hf, rfl⟩ | ⟨hf, ao, co, ad, cd, rfl, hO, hD⟩⟩
  · rw [zI_no hf, zI_no hf, zI_no hf, zI_no hf, zI_no hf, zI_no hf, zB_no hf, zL_no hf, zL_no hf]
    exact ⟨hb, none, 0, none, 0, rfl, .inl ⟨rfl, rfl⟩, .inl ⟨rfl, rfl⟩⟩
  · rw [zI_yes hf, zI_yes hf, zI_yes hf, zI_yes hf, zI_yes hf, zI_yes hf, zB_yes hf, zL_yes hf, zL_yes hf, udp_length, hf]
    exact ⟨hb, _, _, _, _, rfl, hO, hD⟩

theorem By_zT {f src dst sp dp sq ak fl wn ur : Int} {lo : Nat} {os : List Opt} {zm : List Int} (hBm : Mt.By zm) (hBO : ByO os) (hsp : 0 ≤ sp ∧ sp ≤ 65535) (hdp : 0 ≤ dp ∧ dp ≤ 65535) (hsq : 0 ≤ sq ∧ sq ≤ 4294967295) (hak : 0 ≤ ak ∧ ak ≤ 4294967295) (hfl : 0 ≤ fl ∧ fl ≤ 255) (hwn : 0 ≤ wn ∧ wn ≤ 65535) (hur : 0 ≤ ur ∧ ur ≤ 65535) : Mt.By (zL (bte os lo zm.length) (tcp sp dp sq ak fl wn ur (pad (obs os)) src dst zm)) := By_zL fun h => by
  unfold bte at h
  split at h
  · rename_i hok
    exact (By_tcp0 sp dp sq ak fl wn ur _ zm hsp hdp hsq hak hfl hwn hur (pad_le _ hok.2) (By_pad _ (By_obs os hBO hok.2)) hBm).put2 16 (Mt.cks_bd _)
  · cases h

theorem smP_self (a b c d e f : Int) (k : Bool) (x y : List Int) : smP a b c d e f a b c d e f k k x y x y = true := by simp [smP]

set_option maxHeartbeats 8000000 in
theorem walk_SegsBuilds (w : World) (tos id ttl proto src dst : Int) (keep : Bool) (so sd : Value) (zo zd : List Int) (hBo : Mt.By zo) (hBd : Mt.By zd) (hIo : Rd w.heap.size w so zo) (hId : Rd w.heap.size w sd zd) (hlo : zo.length ≤ 140737488351232) (hld : zd.length ≤ 140737488351232)
    (ht : 0 ≤ tos ∧ tos ≤ 255) (hid : 0 ≤ id ∧ id ≤ 65535) (htt : 0 ≤ ttl ∧ ttl ≤ 255) (hpr : 0 ≤ proto ∧ proto ≤ 255) (hsr : 0 ≤ src ∧ src ≤ 4294967295) (hds : 0 ≤ dst ∧ dst ≤ 4294967295)
    (sp dp sq ak fl wn ur : Int) (sO sm1 : Value) (os : List Opt) (zm1 : List Int) (hBO : ByO os) (hB1 : Mt.By zm1) (hIO : RdO w.heap.size w sO os) (hM1 : Rd w.heap.size w sm1 zm1) (hlO : ∀ o ∈ os, o.2.length ≤ 140737488351232) (hl1 : zm1.length ≤ 140737488351232) (hsp : 0 ≤ sp ∧ sp ≤ 65535) (hdp : 0 ≤ dp ∧ dp ≤ 65535) (hsq : 0 ≤ sq ∧ sq ≤ 4294967295) (hak : 0 ≤ ak ∧ ak ≤ 4294967295) (hfl : 0 ≤ fl ∧ fl ≤ 255) (hwn : 0 ≤ wn ∧ wn ≤ 65535) (hur : 0 ≤ ur ∧ ur ≤ 65535)
    (sp2 dp2 : Int) (bare : Bool) (sm2 : Value) (zm2 : List Int) (hB2 : Mt.By zm2) (hM2 : Rd w.heap.size w sm2 zm2) (hl2 : zm2.length ≤ 140737488351232) (hsp2 : 0 ≤ sp2 ∧ sp2 ≤ 65535) (hdp2 : 0 ≤ dp2 ∧ dp2 ≤ 65535) :
    Calls Try.prog 4 #[.agg #[.int .u8 tos, .int .u16 id, .bool keep, .int .u8 ttl, .int .u8 proto, .int .u32 src, .int .u32 dst, so, sd], .agg #[.int .u16 sp, .int .u16 dp, .int .u32 sq, .int .u32 ak, .int .u8 fl, .int .u16 wn, .int .u16 ur, sO, sm1], .agg #[.int .u16 sp2, .int .u16 dp2, .bool bare, sm2]] w fun e w' => e = .returned (.bool true) ∧ Below w.heap.size w w' := by
  obtain ⟨aO, cO, rfl, _, _⟩ := hIO.slice
  obtain ⟨ao, co, rfl, _, _⟩ := hIo.slice
  obtain ⟨ad, cd, rfl, _, _⟩ := hId.slice
  obtain ⟨am1, cm1, rfl, _, _⟩ := hM1.slice
  obtain ⟨am2, cm2, rfl, _, _⟩ := hM2.slice
  have hw0 : Below w.heap.size w (((w.alloc (.cells #[.int .u8 tos, .int .u16 id, .bool keep, .int .u8 ttl, .int .u8 proto, .int .u32 src, .int .u32 dst, .slice ao zo.length co, .slice ad zd.length cd] 26)).alloc (.cells #[.int .u16 sp, .int .u16 dp, .int .u32 sq, .int .u32 ak, .int .u8 fl, .int .u16 wn, .int .u16 ur, .slice aO os.length cO, .slice am1 zm1.length cm1] 29)).alloc (.cells #[.int .u16 sp2, .int .u16 dp2, .bool bare, .slice am2 zm2.length cm2] 37)) := (((Below.refl _ _).alloc (Nat.le_refl _) _).alloc (by simp) _).alloc (by simp; omega) _
  have p0 : (((w.alloc (.cells #[.int .u8 tos, .int .u16 id, .bool keep, .int .u8 ttl, .int .u8 proto, .int .u32 src, .int .u32 dst, .slice ao zo.length co, .slice ad zd.length cd] 26)).alloc (.cells #[.int .u16 sp, .int .u16 dp, .int .u32 sq, .int .u32 ak, .int .u8 fl, .int .u16 wn, .int .u16 ur, .slice aO os.length cO, .slice am1 zm1.length cm1] 29)).alloc (.cells #[.int .u16 sp2, .int .u16 dp2, .bool bare, .slice am2 zm2.length cm2] 37)).heap[w.heap.size]? = some (.cells #[.int .u8 tos, .int .u16 id, .bool keep, .int .u8 ttl, .int .u8 proto, .int .u32 src, .int .u32 dst, .slice ao zo.length co, .slice ad zd.length cd] 26) := (Below.heap_alloc _ _ _ (by simp; omega)).trans ((Below.heap_alloc _ _ _ (by simp)).trans (heap_alloc_new w _))
  have m0 : (((w.alloc (.cells #[.int .u8 tos, .int .u16 id, .bool keep, .int .u8 ttl, .int .u8 proto, .int .u32 src, .int .u32 dst, .slice ao zo.length co, .slice ad zd.length cd] 26)).alloc (.cells #[.int .u16 sp, .int .u16 dp, .int .u32 sq, .int .u32 ak, .int .u8 fl, .int .u16 wn, .int .u16 ur, .slice aO os.length cO, .slice am1 zm1.length cm1] 29)).alloc (.cells #[.int .u16 sp2, .int .u16 dp2, .bool bare, .slice am2 zm2.length cm2] 37)).heap[w.heap.size + 1]? = some (.cells #[.int .u16 sp, .int .u16 dp, .int .u32 sq, .int .u32 ak, .int .u8 fl, .int .u16 wn, .int .u16 ur, .slice aO os.length cO, .slice am1 zm1.length cm1] 29) := by
    have := heap_alloc_new (w.alloc (.cells #[.int .u8 tos, .int .u16 id, .bool keep, .int .u8 ttl, .int .u8 proto, .int .u32 src, .int .u32 dst, .slice ao zo.length co, .slice ad zd.length cd] 26)) (.cells #[.int .u16 sp, .int .u16 dp, .int .u32 sq, .int .u32 ak, .int .u8 fl, .int .u16 wn, .int .u16 ur, .slice aO os.length cO, .slice am1 zm1.length cm1] 29)
    rw [World.size_alloc] at this
    exact (Below.heap_alloc _ _ _ (by simp)).trans this
  have f0 : (((w.alloc (.cells #[.int .u8 tos, .int .u16 id, .bool keep, .int .u8 ttl, .int .u8 proto, .int .u32 src, .int .u32 dst, .slice ao zo.length co, .slice ad zd.length cd] 26)).alloc (.cells #[.int .u16 sp, .int .u16 dp, .int .u32 sq, .int .u32 ak, .int .u8 fl, .int .u16 wn, .int .u16 ur, .slice aO os.length cO, .slice am1 zm1.length cm1] 29)).alloc (.cells #[.int .u16 sp2, .int .u16 dp2, .bool bare, .slice am2 zm2.length cm2] 37)).heap[w.heap.size + 1 + 1]? = some (.cells #[.int .u16 sp2, .int .u16 dp2, .bool bare, .slice am2 zm2.length cm2] 37) := by
    have := heap_alloc_new ((w.alloc (.cells #[.int .u8 tos, .int .u16 id, .bool keep, .int .u8 ttl, .int .u8 proto, .int .u32 src, .int .u32 dst, .slice ao zo.length co, .slice ad zd.length cd] 26)).alloc (.cells #[.int .u16 sp, .int .u16 dp, .int .u32 sq, .int .u32 ak, .int .u8 fl, .int .u16 wn, .int .u16 ur, .slice aO os.length cO, .slice am1 zm1.length cm1] 29)) (.cells #[.int .u16 sp2, .int .u16 dp2, .bool bare, .slice am2 zm2.length cm2] 37)
    simpa using this
  have P0 := hide p0
  have M0 := hide m0
  have F0 := hide f0
  clear p0 m0 f0
  go_enter Try.func4, Try.ntmps4
  go_wp2_with fail
  generalize ((w.alloc (.cells #[.int .u8 tos, .int .u16 id, .bool keep, .int .u8 ttl, .int .u8 proto, .int .u32 src, .int .u32 dst, .slice ao zo.length co, .slice ad zd.length cd] 26)).alloc (.cells #[.int .u16 sp, .int .u16 dp, .int .u32 sq, .int .u32 ak, .int .u8 fl, .int .u16 wn, .int .u16 ur, .slice aO os.length cO, .slice am1 zm1.length cm1] 29)).alloc (.cells #[.int .u16 sp2, .int .u16 dp2, .bool bare, .slice am2 zm2.length cm2] 37) = w0 at *
  have C1 : ∀ v : World, Rd v.heap.size v (.slice ao zo.length co) zo → Rd v.heap.size v (.slice am1 zm1.length cm1) zm1 → RdO v.heap.size v (.slice aO os.length cO) os → _ := fun v x y z => buildTcp_v tos id ttl proto src dst keep _ ad zd.length cd zo sp dp sq ak fl wn ur _ _ os zm1 v hBo x hB1 y hBO z hlO hlo hl1 ht hid htt hsr hds hsp hdp hsq hak hfl hwn hur
  have C2 : ∀ v : World, Rd v.heap.size v (.slice ao zo.length co) zo → Rd v.heap.size v (.slice am1 zm1.length cm1) zm1 → RdO v.heap.size v (.slice aO os.length cO) os → _ := fun v x y z => rbuildTcp_v tos id ttl proto src dst keep _ ad zd.length cd zo sp dp sq ak fl wn ur _ _ os zm1 v hBo x hB1 y hBO z hlO hlo hl1 ht hid htt hsr hds hsp hdp hsq hak hfl hwn hur
  have C3 : ∀ v : World, Rd v.heap.size v (.slice ao zo.length co) zo → Rd v.heap.size v (.slice am2 zm2.length cm2) zm2 → _ := fun v x y => buildUdp_v tos id ttl proto src dst keep _ ad zd.length cd zo sp2 dp2 bare _ zm2 v hBo x hB2 y hlo hl2 ht hid htt hsr hds hsp2 hdp2
  have C4 : ∀ v : World, Rd v.heap.size v (.slice ao zo.length co) zo → Rd v.heap.size v (.slice am2 zm2.length cm2) zm2 → _ := fun v x y => rbuildUdp_v tos id ttl proto src dst keep _ ad zd.length cd zo sp2 dp2 bare _ zm2 v hBo x hB2 y hlo hl2 ht hid htt hsr hds hsp2 hdp2
  have By1 : Mt.By (zL (bte os zo.length zm1.length) zo) := By_zL fun _ => hBo
  have By2 : Mt.By (zL (bte os zo.length zm1.length) (tcp sp dp sq ak fl wn ur (pad (obs os)) src dst zm1)) := By_zT (f := 0) hB1 hBO hsp hdp hsq hak hfl hwn hur
  have By3 : Mt.By (zL (flt zo.length (8 + zm2.length)) zo) := By_zL fun _ => hBo
  have By4 : Mt.By (zL (flt zo.length (8 + zm2.length)) (udp sp2 dp2 bare src dst zm2)) := By_zL fun _ => By_udp sp2 dp2 bare src dst zm2 hsp2 hdp2 hB2
  generalize bte os zo.length zm1.length = f1 at *
  generalize zI f1 tos = y0x at *
  generalize zI f1 id = y1x at *
  generalize zB f1 keep = y2x at *
  generalize zI f1 ttl = y3x at *
  generalize zI f1 6 = y4x at *
  generalize zI f1 src = y5x at *
  generalize zI f1 dst = y6x at *
  generalize zL f1 zo = zox at *
  generalize zL f1 (tcp sp dp sq ak fl wn ur (pad (obs os)) src dst zm1) = zdx at *
  obtain ⟨lox, HLOx⟩ : ∃ n, Hid (zox.length = n) := ⟨_, rfl⟩
  obtain ⟨ldx, HLDx⟩ : ∃ n, Hid (zdx.length = n) := ⟨_, rfl⟩
  generalize flt zo.length (8 + zm2.length) = f2 at *
  generalize zI f2 tos = y0z at *
  generalize zI f2 id = y1z at *
  generalize zB f2 keep = y2z at *
  generalize zI f2 ttl = y3z at *
  generalize zI f2 17 = y4z at *
  generalize zI f2 src = y5z at *
  generalize zI f2 dst = y6z at *
  generalize zL f2 zo = zoz at *
  generalize zL f2 (udp sp2 dp2 bare src dst zm2) = zdz at *
  obtain ⟨loz, HLOz⟩ : ∃ n, Hid (zoz.length = n) := ⟨_, rfl⟩
  obtain ⟨ldz, HLDz⟩ : ∃ n, Hid (zdz.length = n) := ⟨_, rfl⟩
  have hr : ∀ (v : World) (h : Below w.heap.size w v), Rd v.heap.size v (.slice ao zo.length co) zo := fun v h => (hIo.below h).mono h.size
  have hr1 : ∀ (v : World) (h : Below w.heap.size w v), Rd v.heap.size v (.slice am1 zm1.length cm1) zm1 := fun v h => (hM1.below h).mono h.size
  have hr3 : ∀ (v : World) (h : Below w.heap.size w v), RdO v.heap.size v (.slice aO os.length cO) os := fun v h => (hIO.below h).mono h.size
  have hr2 : ∀ (v : World) (h : Below w.heap.size w v), Rd v.heap.size v (.slice am2 zm2.length cm2) zm2 := fun v h => (hM2.below h).mono h.size
  refine (C1 w0 (hr _ hw0) (hr1 _ hw0) (hr3 _ hw0)).mono ?_
  rw [HLOx.out, HLDx.out]
  rintro e w1 ⟨hbw1, a1, c1, b1, d1, rfl, oa1, ob1⟩
  have k1 := heap_alloc_new w1 (.cells #[.int .u8 y0x, .int .u16 y1x, .bool y2x, .int .u8 y3x, .int .u8 y4x, .int .u32 y5x, .int .u32 y6x, .slice a1 lox c1, .slice b1 ldx d1] 26)
  have l2 : Later w1 (w1.alloc (.cells #[.int .u8 y0x, .int .u16 y1x, .bool y2x, .int .u8 y3x, .int .u8 y4x, .int .u32 y5x, .int .u32 y6x, .slice a1 lox c1, .slice b1 ldx d1] 26)) := (Below.refl _ _).alloc (Nat.le_refl _) _
  have ll2 := Later.trans hbw1 l2
  have hw2 := hw0.trans (ll2.mono hw0.size)
  have p2 := (ll2.block w.heap.size (Array.getElem?_eq_some_iff.1 P0.out).1).trans P0.out
  have m2 := (ll2.block (w.heap.size + 1) (Array.getElem?_eq_some_iff.1 M0.out).1).trans M0.out
  have g2 := (ll2.block (w.heap.size + 1 + 1) (Array.getElem?_eq_some_iff.1 F0.out).1).trans F0.out
  have PP := block_cell p2
  have MM := block_cell m2
  go_wp2_with fail
  generalize w1.alloc (.cells #[.int .u8 y0x, .int .u16 y1x, .bool y2x, .int .u8 y3x, .int .u8 y4x, .int .u32 y5x, .int .u32 y6x, .slice a1 lox c1, .slice b1 ldx d1] 26) = w2 at *
  clear PP MM
  refine (C2 w2 (hr _ hw2) (hr1 _ hw2) (hr3 _ hw2)).mono ?_
  rw [HLOx.out, HLDx.out]
  rintro e w3 ⟨hbw3, a2, c2, b2, d2, rfl, oa2, ob2⟩
  have k2 := heap_alloc_new w3 (.cells #[.int .u8 y0x, .int .u16 y1x, .bool y2x, .int .u8 y3x, .int .u8 y4x, .int .u32 y5x, .int .u32 y6x, .slice a2 lox c2, .slice b2 ldx d2] 26)
  have l4 : Later w3 (w3.alloc (.cells #[.int .u8 y0x, .int .u16 y1x, .bool y2x, .int .u8 y3x, .int .u8 y4x, .int .u32 y5x, .int .u32 y6x, .slice a2 lox c2, .slice b2 ldx d2] 26)) := (Below.refl _ _).alloc (Nat.le_refl _) _
  have ll4 := Later.trans hbw3 l4
  have hw4 := hw2.trans (ll4.mono hw2.size)
  have p4 := (ll4.block w.heap.size (Array.getElem?_eq_some_iff.1 p2).1).trans p2
  have g4 := (ll4.block (w.heap.size + 1 + 1) (Array.getElem?_eq_some_iff.1 g2).1).trans g2
  have q4 := (ll4.block w1.heap.size (Array.getElem?_eq_some_iff.1 k1).1).trans k1
  have PP := block_cell p4
  have MM := block_cell g4
  go_wp2_with fail
  generalize w3.alloc (.cells #[.int .u8 y0x, .int .u16 y1x, .bool y2x, .int .u8 y3x, .int .u8 y4x, .int .u32 y5x, .int .u32 y6x, .slice a2 lox c2, .slice b2 ldx d2] 26) = w4 at *
  clear PP MM
  refine (C3 w4 (hr _ hw4) (hr2 _ hw4)).mono ?_
  rw [HLOz.out, HLDz.out]
  rintro e w5 ⟨hbw5, a3, c3, b3, d3, rfl, oa3, ob3⟩
  have k3 := heap_alloc_new w5 (.cells #[.int .u8 y0z, .int .u16 y1z, .bool y2z, .int .u8 y3z, .int .u8 y4z, .int .u32 y5z, .int .u32 y6z, .slice a3 loz c3, .slice b3 ldz d3] 26)
  have l6 : Later w5 (w5.alloc (.cells #[.int .u8 y0z, .int .u16 y1z, .bool y2z, .int .u8 y3z, .int .u8 y4z, .int .u32 y5z, .int .u32 y6z, .slice a3 loz c3, .slice b3 ldz d3] 26)) := (Below.refl _ _).alloc (Nat.le_refl _) _
  have ll6 := Later.trans hbw5 l6
  have hw6 := hw4.trans (ll6.mono hw4.size)
  have p6 := (ll6.block w.heap.size (Array.getElem?_eq_some_iff.1 p4).1).trans p4
  have g6 := (ll6.block (w.heap.size + 1 + 1) (Array.getElem?_eq_some_iff.1 g4).1).trans g4
  have q6 := (ll6.block w1.heap.size (Array.getElem?_eq_some_iff.1 q4).1).trans q4
  have s6 := (ll6.block w3.heap.size (Array.getElem?_eq_some_iff.1 k2).1).trans k2
  have PP := block_cell p6
  have MM := block_cell g6
  go_wp2_with fail
  generalize w5.alloc (.cells #[.int .u8 y0z, .int .u16 y1z, .bool y2z, .int .u8 y3z, .int .u8 y4z, .int .u32 y5z, .int .u32 y6z, .slice a3 loz c3, .slice b3 ldz d3] 26) = w6 at *
  clear PP MM
  refine (C4 w6 (hr _ hw6) (hr2 _ hw6)).mono ?_
  rw [HLOz.out, HLDz.out]
  rintro e w7 ⟨hbw7, a4, c4, b4, d4, rfl, oa4, ob4⟩
  have k4 := heap_alloc_new w7 (.cells #[.int .u8 y0z, .int .u16 y1z, .bool y2z, .int .u8 y3z, .int .u8 y4z, .int .u32 y5z, .int .u32 y6z, .slice a4 loz c4, .slice b4 ldz d4] 26)
  have l8 : Later w7 (w7.alloc (.cells #[.int .u8 y0z, .int .u16 y1z, .bool y2z, .int .u8 y3z, .int .u8 y4z, .int .u32 y5z, .int .u32 y6z, .slice a4 loz c4, .slice b4 ldz d4] 26)) := (Below.refl _ _).alloc (Nat.le_refl _) _
  have ll8 := Later.trans hbw7 l8
  have hw8 := hw6.trans (ll8.mono hw6.size)
  have q8 := (ll8.block w1.heap.size (Array.getElem?_eq_some_iff.1 q6).1).trans q6
  have s8 := (ll8.block w3.heap.size (Array.getElem?_eq_some_iff.1 s6).1).trans s6
  have t8 := (ll8.block w5.heap.size (Array.getElem?_eq_some_iff.1 k3).1).trans k3
  go_wp2_with fail
  generalize w7.alloc (.cells #[.int .u8 y0z, .int .u16 y1z, .bool y2z, .int .u8 y3z, .int .u8 y4z, .int .u32 y5z, .int .u32 y6z, .slice a4 loz c4, .slice b4 ldz d4] 26) = w8 at *
  refine (live3_any w8).mono ?_
  rintro e w9 ⟨rfl, hb9⟩
  have l9 : Later w8 w9 := hb9
  have q9 := block_cell ((l9.block w1.heap.size (Array.getElem?_eq_some_iff.1 q8).1).trans q8)
  have s9 := block_cell ((l9.block w3.heap.size (Array.getElem?_eq_some_iff.1 s8).1).trans s8)
  have hw9 := hw8.trans (l9.mono hw8.size)
  go_wp2_with fail
  have l79 := Later.trans ll8 l9
  have l59 := Later.trans ll6 l79
  have l39 := Later.trans ll4 l59
  refine (rsame_any y0x y1x y3x y4x y5x y6x y0x y1x y3x y4x y5x y6x y2x y2x _ _ _ _ zox zdx zox zdx w9 By1 By2 By1 By2 (oa1.rd.later (Later.trans l2 l39)) (ob1.rd.later (Later.trans l2 l39)) (oa2.rd.later (Later.trans l4 l59)) (ob2.rd.later (Later.trans l4 l59))).mono ?_
  rw [smP_self]
  rintro e w10 ⟨rfl, hb10⟩
  have l10 : Later w9 w10 := hb10
  have l810 := Later.trans l9 l10
  have t10 := block_cell ((l810.block w5.heap.size (Array.getElem?_eq_some_iff.1 t8).1).trans t8)
  have u10 := block_cell ((l810.block w7.heap.size (Array.getElem?_eq_some_iff.1 k4).1).trans k4)
  have hw10 := hw9.trans (l10.mono hw9.size)
  clear q9 s9
  go_wp2_with fail
  refine (rsame_any y0z y1z y3z y4z y5z y6z y0z y1z y3z y4z y5z y6z y2z y2z _ _ _ _ zoz zdz zoz zdz w10 By3 By4 By3 By4 (oa3.rd.later (Later.trans l6 (Later.trans ll8 l810))) (ob3.rd.later (Later.trans l6 (Later.trans ll8 l810))) (oa4.rd.later (Later.trans l8 l810)) (ob4.rd.later (Later.trans l8 l810))).mono ?_
  rw [smP_self]
  rintro e w11 ⟨rfl, hb11⟩
  go_wp2
  go_ret
  exact ⟨rfl, hw10.trans (hb11.mono hw10.size)⟩
end Go.Proofs.Ytclkfmdlgffbeaa
