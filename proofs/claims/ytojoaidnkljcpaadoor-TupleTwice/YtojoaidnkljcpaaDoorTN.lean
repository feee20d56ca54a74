/- The document's BuildUdp. -/
import Derived.Test.YtojoaidnkljcpaaDoorCX
import Derived.Test.YtojoaidnkljcpaaDoorTA
import Derived.Test.YtojoaidnkljcpaaDoorSE
namespace Go.Proofs.YtojoaidnkljcpaaDoor
open Go.RowKit Go.Shelf
set_option maxRecDepth 100000
set_option linter.unusedVariables false
set_option linter.unusedSimpArgs false


/-- Bytes that grow in a row of the call's own, made behind a world. -/
def Rw (Wb : World) (v : Value) (ys : List Int) (W : World) : Prop := W.ownsRow Wb.heap.size 5 1 v ys.length (ys.map (Value.int .u8)) ∧ Below Wb.heap.size Wb W
theorem Rw.nil {Wb W : World} (h : Later Wb W) : Rw Wb (.slice none 0 0) [] W := ⟨World.ownsRow_nil _ _ _ _, h⟩
theorem Rw.later {Wb W W' : World} {v : Value} {ys : List Int} (h : Rw Wb v ys W) (l : Later W W') : Rw Wb v ys W' := ⟨row_below h.1 l (Nat.le_refl _), h.2.trans (l.mono h.2.size)⟩
theorem Rw.app {Wb W : World} {v : Value} {ys : List Int} (h : Rw Wb v ys W) (ty : TypeId) (n₀ : Nat) (sx : Value) (zs : List Int) (hI : Rd n₀ W sx zs) (hbd : ys.length + zs.length ≤ 140737488355328) :
    ∃ v' W', (Builtin.append_ #[24, 24] ty #[v, sx]).run Tryd.prog W = .ok v' W' ∧ Rw Wb v' (ys ++ zs) W' ∧ But (fun b => Wb.heap.size ≤ b) W W' := by
  obtain ⟨i0, hi, hz0, hz1, hz2⟩ := info_parts info_u8
  obtain ⟨v', W', hr, ho, hg⟩ := run_app (P := Tryd.prog) W 24 ty 5 Wb.heap.size i0 Tryd.underlying24 hi hz0 hz1 hz2 v ys h.1 n₀ sx zs hI hbd h.2.size
  exact ⟨v', W', hr, ⟨ho, below_app h.2 h.1 hg (Nat.le_refl _) h.2.size⟩, but_app h.1 hg⟩
theorem wpList_rw {ops : Array Oper} {rest : List Oper} {o : Oper} {a : Act} {Q : Exit → Act → World → Prop} (w : World) (hgd : o.guard = none) (s x : Operand)
    (ho : o.op = .call { callee := .builtin .append, args := #[s, x], argTypes := #[24, 24] }) {Wb : World} {v : Value} {ys : List Int} (hR : Rw Wb v ys w) (hs : a.eval s = v)
    (n₀ : Nat) (sx : Value) (zs : List Int) (hx : a.eval x = sx) (hI : Rd n₀ w sx zs) (hbd : ys.length + zs.length ≤ 140737488355328)
    (h : ∀ v' w', Rw Wb v' (ys ++ zs) w' → wpList Tryd.prog ops Q rest (a.put o.dst v') w') : wpList Tryd.prog ops Q (o :: rest) a w := by
  obtain ⟨i0, hi, hz0, hz1, hz2⟩ := info_parts info_u8
  exact wpList_app w hgd s x 24 ho Wb.heap.size 5 i0 Tryd.underlying24 hi hz0 hz1 hz2 v ys hs hR.1 n₀ sx zs hx hI hbd hR.2.size (fun v' w' h1 h2 => h v' w' ⟨h1, below_app hR.2 hR.1 h2 (Nat.le_refl _) hR.2.size⟩)
theorem Rw.ow {Wb W : World} {v : Value} {ys : List Int} (h : Rw Wb v ys W) : Ow Wb.heap.size W v ys := Ow.of_row h.1
theorem Rw.block {Wb W : World} {v : Value} {ys : List Int} (h : Rw Wb v ys W) {k : Nat} {o : Obj} (ho : Wb.heap[k]? = some o) : W.heap[k]? = some o := (h.2.block k (Array.getElem?_eq_some_iff.1 ho).1).trans ho
theorem later_two (W : World) (x y : Int) : Later W (W.alloc (.cells #[.int .u8 x, .int .u8 y] 5)) := (Below.refl _ _).alloc (Nat.le_refl _) _

set_option maxHeartbeats 8000000 in
theorem rbuildUdp_any (tos id ttl proto src dst sp dp : Int) (keep bare : Bool) (so sm : Value) (ad : Option Addr) (ld cd : Nat) (zo zm : List Int) (w : World) (hIo : Rd w.heap.size w so zo) (hBd : Mt.By zm) (hIm : Rd w.heap.size w sm zm)
    (h1 : zo.length ≤ 140737488355328) (h2 : 8 + zm.length ≤ 140737488355328) (hsr : 0 ≤ src ∧ src ≤ 4294967295) (hds : 0 ≤ dst ∧ dst ≤ 4294967295) (hsp : 0 ≤ sp ∧ sp ≤ 65535) (hdp : 0 ≤ dp ∧ dp ≤ 65535) :
    Calls Tryd.prog 21 #[.agg #[.int .u8 tos, .int .u16 id, .bool keep, .int .u8 ttl, .int .u8 proto, .int .u32 src, .int .u32 dst, so, .slice ad ld cd], .agg #[.int .u16 sp, .int .u16 dp, .bool bare, sm]] w fun e w' => Below w.heap.size w w' ∧ ((flt zo.length (8 + zm.length) ≠ 0 ∧ e = .returned (.tuple #[.agg #[.int .u8 0, .int .u16 0, .bool false, .int .u8 0, .int .u8 0, .int .u32 0, .int .u32 0, .slice none 0 0, .slice none 0 0], .int .i64 (flt zo.length (8 + zm.length))])) ∨
      (flt zo.length (8 + zm.length) = 0 ∧ ∃ a7 c7 a8 c8, e = .returned (.tuple #[.agg #[.int .u8 tos, .int .u16 id, .bool keep, .int .u8 ttl, .int .u8 17, .int .u32 src, .int .u32 dst, .slice a7 zo.length c7, .slice a8 (8 + zm.length) c8], .int .i64 0]) ∧ Ow w.heap.size w' (.slice a7 zo.length c7) zo ∧ Ow w.heap.size w' (.slice a8 (8 + zm.length) c8) (udp sp dp bare src dst zm))) := by
  obtain ⟨ao, co, rfl, _, _⟩ := hIo.slice
  obtain ⟨am, cm, rfl, _, _⟩ := hIm.slice
  have hb0 : Below w.heap.size w (((w.alloc (.cells #[.int .u8 tos, .int .u16 id, .bool keep, .int .u8 ttl, .int .u8 proto, .int .u32 src, .int .u32 dst, .slice ao zo.length co, .slice ad ld cd] 26)).alloc (.cells #[.int .u16 sp, .int .u16 dp, .bool bare, .slice am zm.length cm] 45)).alloc (.cells #[.int .u8 0, .int .u16 0, .bool false, .int .u8 0, .int .u8 0, .int .u32 0, .int .u32 0, .slice none 0 0, .slice none 0 0] 26)) := (((Below.refl _ _).alloc (Nat.le_refl _) _).alloc (by simp) _).alloc (by simp; omega) _
  have p0 : (((w.alloc (.cells #[.int .u8 tos, .int .u16 id, .bool keep, .int .u8 ttl, .int .u8 proto, .int .u32 src, .int .u32 dst, .slice ao zo.length co, .slice ad ld cd] 26)).alloc (.cells #[.int .u16 sp, .int .u16 dp, .bool bare, .slice am zm.length cm] 45)).alloc (.cells #[.int .u8 0, .int .u16 0, .bool false, .int .u8 0, .int .u8 0, .int .u32 0, .int .u32 0, .slice none 0 0, .slice none 0 0] 26)).heap[w.heap.size]? = some (.cells #[.int .u8 tos, .int .u16 id, .bool keep, .int .u8 ttl, .int .u8 proto, .int .u32 src, .int .u32 dst, .slice ao zo.length co, .slice ad ld cd] 26) := (Below.heap_alloc _ _ _ (by simp; omega)).trans ((Below.heap_alloc _ _ _ (by simp)).trans (heap_alloc_new w _))
  have m0 : (((w.alloc (.cells #[.int .u8 tos, .int .u16 id, .bool keep, .int .u8 ttl, .int .u8 proto, .int .u32 src, .int .u32 dst, .slice ao zo.length co, .slice ad ld cd] 26)).alloc (.cells #[.int .u16 sp, .int .u16 dp, .bool bare, .slice am zm.length cm] 45)).alloc (.cells #[.int .u8 0, .int .u16 0, .bool false, .int .u8 0, .int .u8 0, .int .u32 0, .int .u32 0, .slice none 0 0, .slice none 0 0] 26)).heap[w.heap.size + 1]? = some (.cells #[.int .u16 sp, .int .u16 dp, .bool bare, .slice am zm.length cm] 45) := by
    have := heap_alloc_new (w.alloc (.cells #[.int .u8 tos, .int .u16 id, .bool keep, .int .u8 ttl, .int .u8 proto, .int .u32 src, .int .u32 dst, .slice ao zo.length co, .slice ad ld cd] 26)) (.cells #[.int .u16 sp, .int .u16 dp, .bool bare, .slice am zm.length cm] 45)
    rw [World.size_alloc] at this
    exact (Below.heap_alloc _ _ _ (by simp)).trans this
  have r0 : (((w.alloc (.cells #[.int .u8 tos, .int .u16 id, .bool keep, .int .u8 ttl, .int .u8 proto, .int .u32 src, .int .u32 dst, .slice ao zo.length co, .slice ad ld cd] 26)).alloc (.cells #[.int .u16 sp, .int .u16 dp, .bool bare, .slice am zm.length cm] 45)).alloc (.cells #[.int .u8 0, .int .u16 0, .bool false, .int .u8 0, .int .u8 0, .int .u32 0, .int .u32 0, .slice none 0 0, .slice none 0 0] 26)).heap[w.heap.size + 1 + 1]? = some (.cells #[.int .u8 0, .int .u16 0, .bool false, .int .u8 0, .int .u8 0, .int .u32 0, .int .u32 0, .slice none 0 0, .slice none 0 0] 26 (0, 0)) := by
    have := heap_alloc_new ((w.alloc (.cells #[.int .u8 tos, .int .u16 id, .bool keep, .int .u8 ttl, .int .u8 proto, .int .u32 src, .int .u32 dst, .slice ao zo.length co, .slice ad ld cd] 26)).alloc (.cells #[.int .u16 sp, .int .u16 dp, .bool bare, .slice am zm.length cm] 45)) (.cells #[.int .u8 0, .int .u16 0, .bool false, .int .u8 0, .int .u8 0, .int .u32 0, .int .u32 0, .slice none 0 0, .slice none 0 0] 26)
    simpa using this
  have P0 := hide p0
  have M0 := hide m0
  have R0 := hide r0
  clear p0 m0 r0
  go_enter Tryd.func21, Tryd.ntmps21
  go_wp2_with fail
  generalize ((w.alloc (.cells #[.int .u8 tos, .int .u16 id, .bool keep, .int .u8 ttl, .int .u8 proto, .int .u32 src, .int .u32 dst, .slice ao zo.length co, .slice ad ld cd] 26)).alloc (.cells #[.int .u16 sp, .int .u16 dp, .bool bare, .slice am zm.length cm] 45)).alloc (.cells #[.int .u8 0, .int .u16 0, .bool false, .int .u8 0, .int .u8 0, .int .u32 0, .int .u32 0, .slice none 0 0, .slice none 0 0] 26) = w0 at *
  refine (rwith_any tos id ttl proto src dst 17 keep _ _ ad ld cd zo [] w0 ((hIo.below hb0).mono hb0.size) (rd_zero w0) h1 (by simp)).mono ?_
  rintro e w1 ⟨hb1, ⟨hf, rfl⟩ | ⟨hf, a7, c7, a8, c8, rfl, hO1, hD1⟩⟩
  · obtain ⟨f4, f4'⟩ := flt_none zo.length hf (8 + zm.length)
    rw [show ([] : List Int).length = 0 from rfl, f4]
    have HF := hide f4'
    clear f4 f4' hf
    have l2 : Later w1 (w1.alloc (.cells #[.int .u8 0, .int .u16 0, .bool false, .int .u8 0, .int .u8 0, .int .u32 0, .int .u32 0, .slice none 0 0, .slice none 0 0] 26)) := (Below.refl _ _).alloc (Nat.le_refl _) _
    have l02 := Later.trans hb1 l2
    have r2 := (l02.block (w.heap.size + 1 + 1) (Array.getElem?_eq_some_iff.1 R0.out).1).trans R0.out
    have hw2 := hb0.trans (l02.mono hb0.size)
    have RR := block_cell r2
    have FF := block_frozen r2
    go_wp2_with fail
    generalize w1.alloc (.cells #[.int .u8 0, .int .u16 0, .bool false, .int .u8 0, .int .u8 0, .int .u32 0, .int .u32 0, .slice none 0 0, .slice none 0 0] 26) = w2 at *
    generalize hV : ((((((((w2.setCell ⟨w.heap.size + 1 + 1, 0, none⟩ _).setCell ⟨w.heap.size + 1 + 1, 1, none⟩ _).setCell ⟨w.heap.size + 1 + 1, 2, none⟩ _).setCell ⟨w.heap.size + 1 + 1, 3, none⟩ _).setCell ⟨w.heap.size + 1 + 1, 4, none⟩ _).setCell ⟨w.heap.size + 1 + 1, 5, none⟩ _).setCell ⟨w.heap.size + 1 + 1, 6, none⟩ _).setCell ⟨w.heap.size + 1 + 1, 7, none⟩ _).setCell ⟨w.heap.size + 1 + 1, 8, none⟩ _ = V8
    have hV9 : V8 = putRow w2 (w.heap.size + 1 + 1) 0 [Value.int .u8 0, .int .u16 0, .bool false, .int .u8 0, .int .u8 0, .int .u32 0, .int .u32 0, .slice none 0 0, .slice none 0 0] := hV.symm
    have hb8 : But (fun b => b = w.heap.size + 1 + 1) w2 V8 := by rw [hV9]; exact putRow_but (E := fun b => b = w.heap.size + 1 + 1) (n := w.heap.size + 1 + 1) rfl _ _ _ _ (But.refl _ _)
    have p8 := putRow_all [Value.int .u8 0, .int .u16 0, .bool false, .int .u8 0, .int .u8 0, .int .u32 0, .int .u32 0, .slice none 0 0, .slice none 0 0] r2 rfl
    rw [← hV9] at p8
    clear hV hV9
    have P8 := block_cell p8
    have hw8 : Below w.heap.size w V8 := (hw2).trans (hb8.below (hw2).size (fun k h e => by omega))
    exact bodyPost_ret (v := .tuple #[.agg #[.int .u8 0, .int .u16 0, .bool false, .int .u8 0, .int .u8 0, .int .u32 0, .int .u32 0, .slice none 0 0, .slice none 0 0], .int .i64 4]) (by simp [results, Tryd.results21, go_sem, P8]) rfl (⟨hw8, .inl ⟨by rw [HF.out]; decide, by rw [HF.out]⟩⟩)
  · have f0 := flt_some zo.length hf (8 + zm.length)
    clear hf
    have l2 : Later w1 (w1.alloc (.cells #[.int .u8 tos, .int .u16 id, .bool keep, .int .u8 ttl, .int .u8 17, .int .u32 src, .int .u32 dst, .slice a7 zo.length c7, .slice a8 ([] : List Int).length c8] 26)) := (Below.refl _ _).alloc (Nat.le_refl _) _
    have l02 := Later.trans hb1 l2
    have p2 := (l02.block w.heap.size (Array.getElem?_eq_some_iff.1 P0.out).1).trans P0.out
    have m2 := (l02.block (w.heap.size + 1) (Array.getElem?_eq_some_iff.1 M0.out).1).trans M0.out
    have r2 := (l02.block (w.heap.size + 1 + 1) (Array.getElem?_eq_some_iff.1 R0.out).1).trans R0.out
    have hw2 := hb0.trans (l02.mono hb0.size)
    have PP := block_cell p2
    have MM := block_cell m2
    rw [show ([] : List Int).length = 0 from rfl] at *
    by_cases c3 : 65535 < 20 + zo.length + (8 + zm.length)
    · have t3 : (65535 : Int) < 28 + zo.length + zm.length := by omega
      rw [if_pos c3] at f0
      have HF := hide f0
      clear f0 c3
      have RR := block_cell r2
      have FF := block_frozen r2
      go_wp2_with fail
      generalize w1.alloc (.cells #[.int .u8 tos, .int .u16 id, .bool keep, .int .u8 ttl, .int .u8 17, .int .u32 src, .int .u32 dst, .slice a7 zo.length c7, .slice a8 0 c8] 26) = w2 at *
      generalize hV : ((((((((w2.setCell ⟨w.heap.size + 1 + 1, 0, none⟩ _).setCell ⟨w.heap.size + 1 + 1, 1, none⟩ _).setCell ⟨w.heap.size + 1 + 1, 2, none⟩ _).setCell ⟨w.heap.size + 1 + 1, 3, none⟩ _).setCell ⟨w.heap.size + 1 + 1, 4, none⟩ _).setCell ⟨w.heap.size + 1 + 1, 5, none⟩ _).setCell ⟨w.heap.size + 1 + 1, 6, none⟩ _).setCell ⟨w.heap.size + 1 + 1, 7, none⟩ _).setCell ⟨w.heap.size + 1 + 1, 8, none⟩ _ = V8
      have hV9 : V8 = putRow w2 (w.heap.size + 1 + 1) 0 [Value.int .u8 0, .int .u16 0, .bool false, .int .u8 0, .int .u8 0, .int .u32 0, .int .u32 0, .slice none 0 0, .slice none 0 0] := hV.symm
      have hb8 : But (fun b => b = w.heap.size + 1 + 1) w2 V8 := by rw [hV9]; exact putRow_but (E := fun b => b = w.heap.size + 1 + 1) (n := w.heap.size + 1 + 1) rfl _ _ _ _ (But.refl _ _)
      have p8 := putRow_all [Value.int .u8 0, .int .u16 0, .bool false, .int .u8 0, .int .u8 0, .int .u32 0, .int .u32 0, .slice none 0 0, .slice none 0 0] r2 rfl
      rw [← hV9] at p8
      clear hV hV9
      have P8 := block_cell p8
      have hw8 : Below w.heap.size w V8 := (hw2).trans (hb8.below (hw2).size (fun k h e => by omega))
      exact bodyPost_ret (v := .tuple #[.agg #[.int .u8 0, .int .u16 0, .bool false, .int .u8 0, .int .u8 0, .int .u32 0, .int .u32 0, .slice none 0 0, .slice none 0 0], .int .i64 8]) (by simp [results, Tryd.results21, go_sem, P8]) rfl (⟨hw8, .inl ⟨by rw [HF.out]; decide, by rw [HF.out]⟩⟩)
    · have t3 : ¬ (65535 : Int) < 28 + zo.length + zm.length := by omega
      rw [if_neg c3] at f0
      have HF := hide f0
      clear f0
      go_upto_region 7 with fail
      generalize w1.alloc (.cells #[.int .u8 tos, .int .u16 id, .bool keep, .int .u8 ttl, .int .u8 17, .int .u32 src, .int .u32 dst, .slice a7 zo.length c7, .slice a8 0 c8] 26) = w2 at *
      clear PP MM l02 hb0
      have hsr2 := (Array.getElem?_eq_some_iff.1 r2).1
      go_cut [8] (fun v wx => Rw w2 v ([sp, dp].flatMap b2) wx)
      case first =>
        refine anyT_begin (R := But (fun b => w2.heap.size ≤ b)) 10 rfl (by kernel_rfl) ?_
        have R0 : Rw w2 (.slice none 0 0) [] w2.drew := Rw.nil (Later.drew w2)
        have md := R0.block m2
        generalize w2.drew = Wd at *
        have ha : ∀ v1, But (fun b => w2.heap.size ≤ b) Wd v1 → ∀ i, v1.cell? ⟨w.heap.size + 1, i, none⟩ = #[Value.int .u16 sp, .int .u16 dp, .bool bare, .slice am zm.length cm][i]? := fun v1 h => block_cell ((h.block (w.heap.size + 1) (Array.getElem?_eq_some_iff.1 md).1 (by omega)).trans md)
        refine anyT_val (But.pre _) 0 rfl (by kernel_rfl) (by kernel_rfl) (by kernel_rfl) (fun _ _ _ _ h => h) rfl ?_; apply Exists.intro; refine ⟨fun v1 hv1 => ?_, ?_⟩; (· (go_simp; rfl)); simp only [Act.put, List.setIfInBounds_toArray, List.set_cons_zero, List.set_cons_succ]
        refine anyT_val (But.pre _) 1 rfl (by kernel_rfl) (by kernel_rfl) (by kernel_rfl) (fun _ _ _ _ h => h) rfl ?_; apply Exists.intro; refine ⟨fun v1 hv1 => ?_, ?_⟩; (· (go_simp; rfl)); simp only [Act.put, List.setIfInBounds_toArray, List.set_cons_zero, List.set_cons_succ]
        refine anyT_val (But.pre _) 2 rfl (by kernel_rfl) (by kernel_rfl) (by kernel_rfl) (fun _ _ _ _ h => h) rfl ?_; apply Exists.intro; refine ⟨fun v1 hv1 => ?_, ?_⟩; (· (go_simp; rfl)); simp only [Act.put, List.setIfInBounds_toArray, List.set_cons_zero, List.set_cons_succ]
        refine anyT_val (But.pre _) 5 rfl (by kernel_rfl) (by kernel_rfl) (by kernel_rfl) (fun _ _ _ _ h => h) rfl ?_; apply Exists.intro; refine ⟨fun v1 hv1 => ?_, ?_⟩; (· (go_simp; rfl)); simp only [Act.put, List.setIfInBounds_toArray, List.set_cons_zero, List.set_cons_succ]
        refine anyT_val (But.pre _) 6 rfl (by kernel_rfl) (by kernel_rfl) (by kernel_rfl) (fun _ _ _ _ h => h) rfl ?_; apply Exists.intro; refine ⟨fun v1 hv1 => ?_, ?_⟩; (· (go_simp; rfl)); simp only [Act.put, List.setIfInBounds_toArray, List.set_cons_zero, List.set_cons_succ]
        refine anyT_one 3 rfl (by kernel_rfl) rfl ?_
        refine wp_enter 38 #[.int .u16 sp] (by go_simp) ?_
        refine (two_any sp hsp Wd).mono ?_
        rintro e w4 ⟨rfl, rfl⟩
        have R4 := R0.later (later_two Wd (sp / 256) (sp % 256))
        have X4 := Rd.new2 (sp / 256) (sp % 256) 5 Wd
        refine ⟨But.of (later_two Wd _ _), ?_⟩
        simp only [Act.put, List.setIfInBounds_toArray, List.set_cons_zero, List.set_cons_succ]
        generalize Wd.alloc (.cells #[.int .u8 (sp / 256), .int .u8 (sp % 256)] 5) = W4 at *
        refine anyT_one 4 rfl (by kernel_rfl) rfl ?_
        obtain ⟨v5, W5, hrun5, R5, bt5⟩ := R4.app 24 _ _ _ X4 (by simp)
        refine wp_app (.tmp 29) (.tmp 32) 24 rfl _ _ rfl rfl _ W5 hrun5 ⟨bt5, ?_⟩
        simp only [Act.put, List.setIfInBounds_toArray, List.set_cons_zero, List.set_cons_succ]
        refine anyT_one 7 rfl (by kernel_rfl) rfl ?_
        refine wp_enter 38 #[.int .u16 dp] (by go_simp) ?_
        refine (two_any dp hdp W5).mono ?_
        rintro e w4 ⟨rfl, rfl⟩
        have R6 := R5.later (later_two W5 (dp / 256) (dp % 256))
        have X6 := Rd.new2 (dp / 256) (dp % 256) 5 W5
        refine ⟨But.of (later_two W5 _ _), ?_⟩
        simp only [Act.put, List.setIfInBounds_toArray, List.set_cons_zero, List.set_cons_succ]
        generalize W5.alloc (.cells #[.int .u8 (dp / 256), .int .u8 (dp % 256)] 5) = W6 at *
        refine anyT_one 8 rfl (by kernel_rfl) rfl ?_
        obtain ⟨v7, W7, hrun7, R7, bt7⟩ := R6.app 24 _ _ _ X6 (by simp)
        refine wp_app (.tmp 33) (.tmp 36) 24 rfl _ _ rfl rfl _ W7 hrun7 ⟨bt7, ?_⟩
        simp only [Act.put, List.setIfInBounds_toArray, List.set_cons_zero, List.set_cons_succ]
        refine anyT_one 9 rfl (by kernel_rfl) rfl ?_
        unfold Oper.wp
        go_simp
        refine ⟨But.refl _ _, ?_⟩
        refine anyT_done (by kernel_rfl) ?_
        clear ha hrun5 hrun7
        go_wp2_with fail
        go_meet
        case rel => exact R7
      case rest =>
        have R3 : Rw w2 _ ([sp, dp].flatMap b2) wc := hcut
        clear hcut
        have mc := block_cell (R3.block m2)
        have hl8 : (8 + (zm.length : Int)) % 65536 = 8 + zm.length := by omega
        have hw8 : 8 + (zm.length : Int) ≤ 65535 := by omega
        go_wp2_with fail
        refine (two_any (8 + zm.length) (by omega) wc).mono ?_
        rintro e w4 ⟨rfl, rfl⟩
        have R4 := R3.later (later_two wc ((8 + zm.length) / 256) ((8 + zm.length) % 256))
        have X4 := Rd.new2 ((8 + (zm.length : Int)) / 256) ((8 + zm.length) % 256) 5 wc
        clear mc
        generalize wc.alloc (.cells #[.int .u8 ((8 + (zm.length : Int)) / 256), .int .u8 ((8 + zm.length) % 256)] 5) = W4 at *
        generalize some (⟨wc.heap.size, 0, none⟩ : Addr) = a4 at *
        go_wp2_with (at_builtin; go_loud (refine wpList_rw _ rfl (.tmp 38) (.tmp 44) rfl R4 rfl _ _ _ rfl X4 (by simp [b2]) ?_; intro v5 W5 R5; refine Hid.out ?_))
        have R6 := R5.later (later_two W5 0 0)
        have X6 := Rd.new2 0 0 5 W5
        show wpList _ _ _ _ _ _
        go_wp2_with (at_builtin; go_loud (refine wpList_rw _ rfl (.tmp 45) (.tmp 46) rfl R6 rfl _ _ _ rfl X6 (by simp [b2]) ?_; intro v7 W7 R7; refine Hid.out ?_))
        have m7 := block_cell (R7.block m2)
        have hRm : Rd w.heap.size W7 (.slice am zm.length cm) zm := hIm.below (hw2.trans (R7.2.mono hw2.size))
        show wpList _ _ _ _ _ _
        go_wp2_with (at_builtin; go_loud (refine wpList_rw _ rfl (.tmp 48) (.tmp 50) rfl R7 rfl _ _ _ rfl hRm (by simp [b2]; omega) ?_; intro v8 W8 R8; refine Hid.out ?_))
        have hlist : (([sp, dp].flatMap b2 ++ [(8 + (zm.length : Int)) / 256, (8 + zm.length) % 256]) ++ [0, 0]) ++ zm = udp0 sp dp zm := by unfold udp0; rw [hl8]; simp [b2]
        rw [hlist] at R8
        have m8 := block_cell (R8.block m2)
        have p8 := block_cell (R8.block p2)
        have r8 := R8.block r2
        have hO8 := R8.ow
        have hw8' := hw2.trans (R8.2.mono hw2.size)
        clear m7 R3 R4 R5 R6 R7 X4 X6 hRm hlist
        show wpList _ _ _ _ _ _
        have pb := R8.block p2
        obtain ⟨a8', c8', rfl, _, _⟩ := hO8.slice
        have hBu : Mt.By (udp0 sp dp zm) := By_udp0 sp dp zm hsp hdp hBd
        have hlu := udp0_length sp dp zm
        have HLC := hide (udp_length sp dp bare src dst zm)
        have HLU := hide hlu
        clear hlu
        have hz : 8 + zm.length ≤ 65535 := by omega
        clear hl8 t3 hw8 R8
        cases bare
        · have HUD : Hid (putAt2 (udp0 sp dp zm) 6 (usm src dst 17 (udp0 sp dp zm)) = udp sp dp false src dst zm) := by show _ = _; unfold putAt2 udp; rw [if_pos (by rw [HLU.out]; omega)]; rfl
          have hub := usm_bd src dst 17 (udp0 sp dp zm)
          generalize udp0 sp dp zm = bb at *
          go_wp2_with fail
          refine (rsum3_any tos id ttl proto src dst 17 keep _ _ _ bb W8 hBu hO8.rd (by rw [HLU.out]; omega) (by omega) hsr hds).mono ?_
          rintro e W9 ⟨rfl, hb9⟩
          have HU : Hid (usm src dst 17 bb = if Mt.cks (psd src dst 17 bb.length ++ bb) = 0 then 65535 else Mt.cks (psd src dst 17 bb.length ++ bb)) := rfl
          generalize Mt.cks (psd src dst 17 bb.length ++ bb) = c at *
          by_cases hc : c = 0
          · subst hc
            rw [show usm src dst 17 bb = 65535 from HU.out] at HUD
            clear HU hub
            go_wp2_with fail
            refine (rput16_any _ bb 6 65535 (by omega) (by rw [HLU.out]; omega) W9 (hO8.later hb9).rd (by omega)).mono ?_
            rintro e W10 ⟨rv, rfl, hO10, hb10⟩
            rw [HUD.out] at hO10
            obtain ⟨a10, c10, rfl, _, _⟩ := hO10.slice
            have l10 : Later W8 W10 := Later.trans hb9 hb10
            have p10 := block_cell (later_keep l10 pb)
            go_wp2_with fail
            have pn := block_cell (later_keep l10 pb)
            have rn := later_keep l10 r8
            have hwn := hw8'.trans ((l10).mono hw8'.size)
            refine (rwith_any tos id ttl proto src dst 17 keep _ _ ad ld cd zo (udp sp dp false src dst zm) W10 ((hIo.below hwn).mono hwn.size) hO10.rd h1 (by rw [HLC.out]; omega)).mono ?_
            rw [HLC.out, HF.out]
            rintro e WX ⟨hbX, ⟨hx, _⟩ | ⟨_, a9, c9, ad9, cd9, rfl, hO9, hD9⟩⟩
            case inl => exact absurd rfl hx
            have rX := later_keep hbX rn
            have hwX := hwn.trans (hbX.mono hwn.size)
            have kX := block_cell rX
            have fX := block_frozen rX
            clear pn m8 p8
            go_wp2_with fail
            generalize hV : ((((((((WX.setCell ⟨w.heap.size + 1 + 1, 0, none⟩ _).setCell ⟨w.heap.size + 1 + 1, 1, none⟩ _).setCell ⟨w.heap.size + 1 + 1, 2, none⟩ _).setCell ⟨w.heap.size + 1 + 1, 3, none⟩ _).setCell ⟨w.heap.size + 1 + 1, 4, none⟩ _).setCell ⟨w.heap.size + 1 + 1, 5, none⟩ _).setCell ⟨w.heap.size + 1 + 1, 6, none⟩ _).setCell ⟨w.heap.size + 1 + 1, 7, none⟩ _).setCell ⟨w.heap.size + 1 + 1, 8, none⟩ _ = V
            have hV8 : V = putRow WX (w.heap.size + 1 + 1) 0 [.int .u8 tos, .int .u16 id, .bool keep, .int .u8 ttl, .int .u8 17, .int .u32 src, .int .u32 dst, .slice a9 zo.length c9, .slice ad9 (8 + zm.length) cd9] := hV.symm
            have hbV : But (fun b => b = w.heap.size + 1 + 1) WX V := by rw [hV8]; exact putRow_rb _ _
            have pV := putRow_all [Value.int .u8 tos, .int .u16 id, .bool keep, .int .u8 ttl, .int .u8 17, .int .u32 src, .int .u32 dst, .slice a9 zo.length c9, .slice ad9 (8 + zm.length) cd9] rX rfl
            rw [← hV8] at pV
            clear hV hV8 kX fX
            have PV := block_cell pV
            have hwV : Below w.heap.size w V := hwX.trans (hbV.below hwX.size (fun k hk e => by omega))
            exact bodyPost_ret (v := .tuple #[.agg #[.int .u8 tos, .int .u16 id, .bool keep, .int .u8 ttl, .int .u8 17, .int .u32 src, .int .u32 dst, .slice a9 zo.length c9, .slice ad9 (8 + zm.length) cd9], .int .i64 0]) (by simp [results, Tryd.results21, go_sem, PV]) rfl ⟨hwV, .inr ⟨HF.out, a9, c9, ad9, cd9, rfl, (hO9.apart rX (by decide) hbV).mono hwn.size, (hD9.apart rX (by decide) hbV).mono hwn.size⟩⟩
          · have hu : usm src dst 17 bb = c := HU.out.trans (if_neg hc)
            rw [hu] at HUD hub
            have hc' : (c == 0) = false := by simp [hc]
            clear HU hu hc
            go_wp2_with fail
            refine (rput16_any _ bb 6 c (by omega) (by rw [HLU.out]; omega) W9 (hO8.later hb9).rd (by omega)).mono ?_
            rintro e W10 ⟨rv, rfl, hO10, hb10⟩
            rw [HUD.out] at hO10
            obtain ⟨a10, c10, rfl, _, _⟩ := hO10.slice
            have l10 : Later W8 W10 := Later.trans hb9 hb10
            have p10 := block_cell (later_keep l10 pb)
            go_wp2_with fail
            have pn := block_cell (later_keep l10 pb)
            have rn := later_keep l10 r8
            have hwn := hw8'.trans ((l10).mono hw8'.size)
            refine (rwith_any tos id ttl proto src dst 17 keep _ _ ad ld cd zo (udp sp dp false src dst zm) W10 ((hIo.below hwn).mono hwn.size) hO10.rd h1 (by rw [HLC.out]; omega)).mono ?_
            rw [HLC.out, HF.out]
            rintro e WX ⟨hbX, ⟨hx, _⟩ | ⟨_, a9, c9, ad9, cd9, rfl, hO9, hD9⟩⟩
            case inl => exact absurd rfl hx
            have rX := later_keep hbX rn
            have hwX := hwn.trans (hbX.mono hwn.size)
            have kX := block_cell rX
            have fX := block_frozen rX
            clear pn m8 p8
            go_wp2_with fail
            generalize hV : ((((((((WX.setCell ⟨w.heap.size + 1 + 1, 0, none⟩ _).setCell ⟨w.heap.size + 1 + 1, 1, none⟩ _).setCell ⟨w.heap.size + 1 + 1, 2, none⟩ _).setCell ⟨w.heap.size + 1 + 1, 3, none⟩ _).setCell ⟨w.heap.size + 1 + 1, 4, none⟩ _).setCell ⟨w.heap.size + 1 + 1, 5, none⟩ _).setCell ⟨w.heap.size + 1 + 1, 6, none⟩ _).setCell ⟨w.heap.size + 1 + 1, 7, none⟩ _).setCell ⟨w.heap.size + 1 + 1, 8, none⟩ _ = V
            have hV8 : V = putRow WX (w.heap.size + 1 + 1) 0 [.int .u8 tos, .int .u16 id, .bool keep, .int .u8 ttl, .int .u8 17, .int .u32 src, .int .u32 dst, .slice a9 zo.length c9, .slice ad9 (8 + zm.length) cd9] := hV.symm
            have hbV : But (fun b => b = w.heap.size + 1 + 1) WX V := by rw [hV8]; exact putRow_rb _ _
            have pV := putRow_all [Value.int .u8 tos, .int .u16 id, .bool keep, .int .u8 ttl, .int .u8 17, .int .u32 src, .int .u32 dst, .slice a9 zo.length c9, .slice ad9 (8 + zm.length) cd9] rX rfl
            rw [← hV8] at pV
            clear hV hV8 kX fX
            have PV := block_cell pV
            have hwV : Below w.heap.size w V := hwX.trans (hbV.below hwX.size (fun k hk e => by omega))
            exact bodyPost_ret (v := .tuple #[.agg #[.int .u8 tos, .int .u16 id, .bool keep, .int .u8 ttl, .int .u8 17, .int .u32 src, .int .u32 dst, .slice a9 zo.length c9, .slice ad9 (8 + zm.length) cd9], .int .i64 0]) (by simp [results, Tryd.results21, go_sem, PV]) rfl ⟨hwV, .inr ⟨HF.out, a9, c9, ad9, cd9, rfl, (hO9.apart rX (by decide) hbV).mono hwn.size, (hD9.apart rX (by decide) hbV).mono hwn.size⟩⟩
        · rw [show udp0 sp dp zm = udp sp dp true src dst zm from rfl] at *
          go_wp2_with fail
          have pn := block_cell (later_keep (Later.refl W8) pb)
          have rn := later_keep (Later.refl W8) r8
          have hwn := hw8'.trans (((Later.refl W8)).mono hw8'.size)
          refine (rwith_any tos id ttl proto src dst 17 keep _ _ ad ld cd zo (udp sp dp true src dst zm) W8 ((hIo.below hwn).mono hwn.size) hO8.rd h1 (by rw [HLC.out]; omega)).mono ?_
          rw [HLC.out, HF.out]
          rintro e WX ⟨hbX, ⟨hx, _⟩ | ⟨_, a9, c9, ad9, cd9, rfl, hO9, hD9⟩⟩
          case inl => exact absurd rfl hx
          have rX := later_keep hbX rn
          have hwX := hwn.trans (hbX.mono hwn.size)
          have kX := block_cell rX
          have fX := block_frozen rX
          clear pn m8 p8
          go_wp2_with fail
          generalize hV : ((((((((WX.setCell ⟨w.heap.size + 1 + 1, 0, none⟩ _).setCell ⟨w.heap.size + 1 + 1, 1, none⟩ _).setCell ⟨w.heap.size + 1 + 1, 2, none⟩ _).setCell ⟨w.heap.size + 1 + 1, 3, none⟩ _).setCell ⟨w.heap.size + 1 + 1, 4, none⟩ _).setCell ⟨w.heap.size + 1 + 1, 5, none⟩ _).setCell ⟨w.heap.size + 1 + 1, 6, none⟩ _).setCell ⟨w.heap.size + 1 + 1, 7, none⟩ _).setCell ⟨w.heap.size + 1 + 1, 8, none⟩ _ = V
          have hV8 : V = putRow WX (w.heap.size + 1 + 1) 0 [.int .u8 tos, .int .u16 id, .bool keep, .int .u8 ttl, .int .u8 17, .int .u32 src, .int .u32 dst, .slice a9 zo.length c9, .slice ad9 (8 + zm.length) cd9] := hV.symm
          have hbV : But (fun b => b = w.heap.size + 1 + 1) WX V := by rw [hV8]; exact putRow_rb _ _
          have pV := putRow_all [Value.int .u8 tos, .int .u16 id, .bool keep, .int .u8 ttl, .int .u8 17, .int .u32 src, .int .u32 dst, .slice a9 zo.length c9, .slice ad9 (8 + zm.length) cd9] rX rfl
          rw [← hV8] at pV
          clear hV hV8 kX fX
          have PV := block_cell pV
          have hwV : Below w.heap.size w V := hwX.trans (hbV.below hwX.size (fun k hk e => by omega))
          exact bodyPost_ret (v := .tuple #[.agg #[.int .u8 tos, .int .u16 id, .bool keep, .int .u8 ttl, .int .u8 17, .int .u32 src, .int .u32 dst, .slice a9 zo.length c9, .slice ad9 (8 + zm.length) cd9], .int .i64 0]) (by simp [results, Tryd.results21, go_sem, PV]) rfl ⟨hwV, .inr ⟨HF.out, a9, c9, ad9, cd9, rfl, (hO9.apart rX (by decide) hbV).mono hwn.size, (hD9.apart rX (by decide) hbV).mono hwn.size⟩⟩
end Go.Proofs.YtojoaidnkljcpaaDoor
