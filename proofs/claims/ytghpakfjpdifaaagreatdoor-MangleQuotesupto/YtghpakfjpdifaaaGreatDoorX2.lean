/- Several texts in one. -/
import Derived.Test.YtghpakfjpdifaaaGreatDoorX3
import Derived.Test.YtghpakfjpdifaaaGreatDoorX6
import Derived.Test.YtghpakfjpdifaaaGreatDoorSE
import Derived.Test.YtghpakfjpdifaaaGreatDoorV5
import Derived.Test.YtghpakfjpdifaaaGreatDoorX8
import Derived.Test.YtghpakfjpdifaaaGreatDoorX5
/- The document's BuildUdp. -/
namespace Go.Proofs.YtghpakfjpdifaaaGreatDoor
open Go.RowKit Go.Shelf
set_option maxRecDepth 100000
set_option linter.unusedVariables false
set_option linter.unusedSimpArgs false


/-- Bytes that grow in a row of the call's own, made behind a world. -/
def Rw (Wb : World) (v : Value) (ys : List Int) (W : World) : Prop := W.ownsRow Wb.heap.size 5 1 v ys.length (ys.map (Value.int .u8)) ∧ Below Wb.heap.size Wb W
theorem Rw.nil {Wb W : World} (h : Later Wb W) : Rw Wb (.slice none 0 0) [] W := ⟨World.ownsRow_nil _ _ _ _, h⟩
theorem Rw.later {Wb W W' : World} {v : Value} {ys : List Int} (h : Rw Wb v ys W) (l : Later W W') : Rw Wb v ys W' := ⟨row_below h.1 l (Nat.le_refl _), h.2.trans (l.mono h.2.size)⟩
theorem Rw.app {Wb W : World} {v : Value} {ys : List Int} (h : Rw Wb v ys W) (ty : TypeId) (n₀ : Nat) (sx : Value) (zs : List Int) (hI : Rd n₀ W sx zs) (hbd : ys.length + zs.length ≤ 140737488355328) :
  ∃ v' W', (Builtin.append_ #[24, 24] ty #[v, sx]).run Tryz.prog W = .ok v' W' ∧ Rw Wb v' (ys ++ zs) W' ∧ But (fun b => Wb.heap.size ≤ b) W W' := by
 obtain ⟨i0, hi, hz0, hz1, hz2⟩ := info_parts info_u8
 obtain ⟨v', W', hr, ho, hg⟩ := run_app (P := Tryz.prog) W 24 ty 5 Wb.heap.size i0 Tryz.underlying24 hi hz0 hz1 hz2 v ys h.1 n₀ sx zs hI hbd h.2.size
 exact ⟨v', W', hr, ⟨ho, below_app h.2 h.1 hg (Nat.le_refl _) h.2.size⟩, but_app h.1 hg⟩
theorem wpList_rw {ops : Array Oper} {rest : List Oper} {o : Oper} {a : Act} {Q : Exit → Act → World → Prop} (w : World) (hgd : o.guard = none) (s x : Operand)
  (ho : o.op = .call { callee := .builtin .append, args := #[s, x], argTypes := #[24, 24] }) {Wb : World} {v : Value} {ys : List Int} (hR : Rw Wb v ys w) (hs : a.eval s = v)
  (n₀ : Nat) (sx : Value) (zs : List Int) (hx : a.eval x = sx) (hI : Rd n₀ w sx zs) (hbd : ys.length + zs.length ≤ 140737488355328)
  (h : ∀ v' w', Rw Wb v' (ys ++ zs) w' → wpList Tryz.prog ops Q rest (a.put o.dst v') w') : wpList Tryz.prog ops Q (o :: rest) a w := by
 obtain ⟨i0, hi, hz0, hz1, hz2⟩ := info_parts info_u8
 exact wpList_app w hgd s x 24 ho Wb.heap.size 5 i0 Tryz.underlying24 hi hz0 hz1 hz2 v ys hs hR.1 n₀ sx zs hx hI hbd hR.2.size (fun v' w' h1 h2 => h v' w' ⟨h1, below_app hR.2 hR.1 h2 (Nat.le_refl _) hR.2.size⟩)
theorem Rw.ow {Wb W : World} {v : Value} {ys : List Int} (h : Rw Wb v ys W) : Ow Wb.heap.size W v ys := Ow.of_row h.1
theorem Rw.block {Wb W : World} {v : Value} {ys : List Int} (h : Rw Wb v ys W) {k : Nat} {o : Obj} (ho : Wb.heap[k]? = some o) : W.heap[k]? = some o := (h.2.block k (Array.getElem?_eq_some_iff.1 ho).1).trans ho
theorem later_two (W : World) (x y : Int) : Later W (W.alloc (.cells #[.int .u8 x, .int .u8 y] 5)) := (Below.refl _ _).alloc (Nat.le_refl _) _

set_option maxHeartbeats 8000000 in
theorem rbuildUdp_any (tos id ttl proto src dst sp dp : Int) (keep bare : Bool) (so sm : Value) (ad : Option Addr) (ld cd : Nat) (zo zm : List Int) (w : World) (hIo : Rd w.heap.size w so zo) (hBd : Mt.By zm) (hIm : Rd w.heap.size w sm zm)
  (h1 : zo.length ≤ 140737488355328) (h2 : 8 + zm.length ≤ 140737488355328) (hsr : 0 ≤ src ∧ src ≤ 4294967295) (hds : 0 ≤ dst ∧ dst ≤ 4294967295) (hsp : 0 ≤ sp ∧ sp ≤ 65535) (hdp : 0 ≤ dp ∧ dp ≤ 65535) :
  Calls Tryz.prog 26 #[.agg #[.int .u8 tos, .int .u16 id, .bool keep, .int .u8 ttl, .int .u8 proto, .int .u32 src, .int .u32 dst, so, .slice ad ld cd], .agg #[.int .u16 sp, .int .u16 dp, .bool bare, sm]] w fun e w' => Below w.heap.size w w' ∧ ((flt zo.length (8 + zm.length) ≠ 0 ∧ e = .returned (.tuple #[.agg #[.int .u8 0, .int .u16 0, .bool false, .int .u8 0, .int .u8 0, .int .u32 0, .int .u32 0, .slice none 0 0, .slice none 0 0], .int .i64 (flt zo.length (8 + zm.length))])) ∨
   (flt zo.length (8 + zm.length) = 0 ∧ ∃ a7 c7 a8 c8, e = .returned (.tuple #[.agg #[.int .u8 tos, .int .u16 id, .bool keep, .int .u8 ttl, .int .u8 17, .int .u32 src, .int .u32 dst, .slice a7 zo.length c7, .slice a8 (8 + zm.length) c8], .int .i64 0]) ∧ Ow w.heap.size w' (.slice a7 zo.length c7) zo ∧ Ow w.heap.size w' (.slice a8 (8 + zm.length) c8) (udp sp dp bare src dst zm))) := by
 obtain ⟨ao, co, rfl, _, _⟩ := hIo.slice
 obtain ⟨am, cm, rfl, _, _⟩ := hIm.slice
 have hb0 : Below w.heap.size w (((w.alloc (.cells #[.int .u8 tos, .int .u16 id, .bool keep, .int .u8 ttl, .int .u8 proto, .int .u32 src, .int .u32 dst, .slice ao zo.length co, .slice ad ld cd] 26)).alloc (.cells #[.int .u16 sp, .int .u16 dp, .bool bare, .slice am zm.length cm] 57)).alloc (.cells #[.int .u8 0, .int .u16 0, .bool false, .int .u8 0, .int .u8 0, .int .u32 0, .int .u32 0, .slice none 0 0, .slice none 0 0] 26)) := (((Below.refl _ _).alloc (Nat.le_refl _) _).alloc (by simp) _).alloc (by simp; omega) _
 have p0 : (((w.alloc (.cells #[.int .u8 tos, .int .u16 id, .bool keep, .int .u8 ttl, .int .u8 proto, .int .u32 src, .int .u32 dst, .slice ao zo.length co, .slice ad ld cd] 26)).alloc (.cells #[.int .u16 sp, .int .u16 dp, .bool bare, .slice am zm.length cm] 57)).alloc (.cells #[.int .u8 0, .int .u16 0, .bool false, .int .u8 0, .int .u8 0, .int .u32 0, .int .u32 0, .slice none 0 0, .slice none 0 0] 26)).heap[w.heap.size]? = some (.cells #[.int .u8 tos, .int .u16 id, .bool keep, .int .u8 ttl, .int .u8 proto, .int .u32 src, .int .u32 dst, .slice ao zo.length co, .slice ad ld cd] 26) := (Below.heap_alloc _ _ _ (by simp; omega)).trans ((Below.heap_alloc _ _ _ (by simp)).trans (heap_alloc_new w _))
 have m0 : (((w.alloc (.cells #[.int .u8 tos, .int .u16 id, .bool keep, .int .u8 ttl, .int .u8 proto, .int .u32 src, .int .u32 dst, .slice ao zo.length co, .slice ad ld cd] 26)).alloc (.cells #[.int .u16 sp, .int .u16 dp, .bool bare, .slice am zm.length cm] 57)).alloc (.cells #[.int .u8 0, .int .u16 0, .bool false, .int .u8 0, .int .u8 0, .int .u32 0, .int .u32 0, .slice none 0 0, .slice none 0 0] 26)).heap[w.heap.size + 1]? = some (.cells #[.int .u16 sp, .int .u16 dp, .bool bare, .slice am zm.length cm] 57) := by
  have := heap_alloc_new (w.alloc (.cells #[.int .u8 tos, .int .u16 id, .bool keep, .int .u8 ttl, .int .u8 proto, .int .u32 src, .int .u32 dst, .slice ao zo.length co, .slice ad ld cd] 26)) (.cells #[.int .u16 sp, .int .u16 dp, .bool bare, .slice am zm.length cm] 57)
  rw [World.size_alloc] at this
  exact (Below.heap_alloc _ _ _ (by simp)).trans this
 have r0 : (((w.alloc (.cells #[.int .u8 tos, .int .u16 id, .bool keep, .int .u8 ttl, .int .u8 proto, .int .u32 src, .int .u32 dst, .slice ao zo.length co, .slice ad ld cd] 26)).alloc (.cells #[.int .u16 sp, .int .u16 dp, .bool bare, .slice am zm.length cm] 57)).alloc (.cells #[.int .u8 0, .int .u16 0, .bool false, .int .u8 0, .int .u8 0, .int .u32 0, .int .u32 0, .slice none 0 0, .slice none 0 0] 26)).heap[w.heap.size + 1 + 1]? = some (.cells #[.int .u8 0, .int .u16 0, .bool false, .int .u8 0, .int .u8 0, .int .u32 0, .int .u32 0, .slice none 0 0, .slice none 0 0] 26 (0, 0)) := by
  have := heap_alloc_new ((w.alloc (.cells #[.int .u8 tos, .int .u16 id, .bool keep, .int .u8 ttl, .int .u8 proto, .int .u32 src, .int .u32 dst, .slice ao zo.length co, .slice ad ld cd] 26)).alloc (.cells #[.int .u16 sp, .int .u16 dp, .bool bare, .slice am zm.length cm] 57)) (.cells #[.int .u8 0, .int .u16 0, .bool false, .int .u8 0, .int .u8 0, .int .u32 0, .int .u32 0, .slice none 0 0, .slice none 0 0] 26)
  simpa using this
 have P0 := hide p0
 have M0 := hide m0
 have R0 := hide r0
 clear p0 m0 r0
 go_enter Tryz.func26, Tryz.ntmps26
 go_wp2_with fail
 generalize ((w.alloc (.cells #[.int .u8 tos, .int .u16 id, .bool keep, .int .u8 ttl, .int .u8 proto, .int .u32 src, .int .u32 dst, .slice ao zo.length co, .slice ad ld cd] 26)).alloc (.cells #[.int .u16 sp, .int .u16 dp, .bool bare, .slice am zm.length cm] 57)).alloc (.cells #[.int .u8 0, .int .u16 0, .bool false, .int .u8 0, .int .u8 0, .int .u32 0, .int .u32 0, .slice none 0 0, .slice none 0 0] 26) = w0 at *
 refine (rwith_any tos id ttl proto src dst 17 keep _ _ ad ld cd zo [] w0 ((hIo.below hb0).mono hb0.size) (rd_zero w0) h1 (by simp)).mono ?_
 rintro e w1 ⟨hb1, ⟨hf, rfl⟩ | ⟨hf, a7, c7, a8, c8, rfl, hO1, hD1⟩⟩
 ·obtain ⟨f4, f4'⟩ := flt_none zo.length hf (8 + zm.length)
  rw [show ([] : List Int).length = 0 from rfl, f4]
  have HF := hide f4'
  clear f4 f4' hf
  have l2 : Later w1 (w1.alloc (.cells #[.int .u8 0, .int .u16 0, .bool false, .int .u8 0, .int .u8 0, .int .u32 0, .int .u32 0, .slice none 0 0, .slice none 0 0] 26)) := (Below.refl _ _).alloc (Nat.le_refl _) _
  have l02 := Later.trans hb1 l2
  have r2 := (l02.block (w.heap.size + 1 + 1) (Array.getElem?_eq_some_iff.1 R0.out).1).trans R0.out
  have hw2 := hb0.trans (l02.mono hb0.size)
  have RR := block_cell r2
  have FF := block_frozen r2
  go_wp2_with fail
  generalize w1.alloc (.cells #[.int .u8 0, .int .u16 0, .bool false, .int .u8 0, .int .u8 0, .int .u32 0, .int .u32 0, .slice none 0 0, .slice none 0 0] 26) = w2 at *
  generalize hV : ((((((((w2.setCell ⟨w.heap.size + 1 + 1, 0, none⟩ _).setCell ⟨w.heap.size + 1 + 1, 1, none⟩ _).setCell ⟨w.heap.size + 1 + 1, 2, none⟩ _).setCell ⟨w.heap.size + 1 + 1, 3, none⟩ _).setCell ⟨w.heap.size + 1 + 1, 4, none⟩ _).setCell ⟨w.heap.size + 1 + 1, 5, none⟩ _).setCell ⟨w.heap.size + 1 + 1, 6, none⟩ _).setCell ⟨w.heap.size + 1 + 1, 7, none⟩ _).setCell ⟨w.heap.size + 1 + 1, 8, none⟩ _ = V8
  have hV9 : V8 = putRow w2 (w.heap.size + 1 + 1) 0 [Value.int .u8 0, .int .u16 0, .bool false, .int .u8 0, .int .u8 0, .int .u32 0, .int .u32 0, .slice none 0 0, .slice none 0 0] := hV.symm
  have hb8 : But (fun b => b = w.heap.size + 1 + 1) w2 V8 := by rw [hV9]; exact putRow_but (E := fun b => b = w.heap.size + 1 + 1) (n := w.heap.size + 1 + 1) rfl _ _ _ _ (But.refl _ _)
  have p8 := putRow_all [Value.int .u8 0, .int .u16 0, .bool false, .int .u8 0, .int .u8 0, .int .u32 0, .int .u32 0, .slice none 0 0, .slice none 0 0] r2 rfl
  rw [← hV9] at p8
  clear hV hV9
  have P8 := block_cell p8
  have hw8 : Below w.heap.size w V8 := (hw2).trans (hb8.below (hw2).size (fun k h e => by omega))
  exact bodyPost_ret (v := .tuple #[.agg #[.int .u8 0, .int .u16 0, .bool false, .int .u8 0, .int .u8 0, .int .u32 0, .int .u32 0, .slice none 0 0, .slice none 0 0], .int .i64 4]) (by simp [results, Tryz.results26, go_sem, P8]) rfl (⟨hw8, .inl ⟨by rw [HF.out]; decide, by rw [HF.out]⟩⟩)
 ·have f0 := flt_some zo.length hf (8 + zm.length)
  clear hf
  have l2 : Later w1 (w1.alloc (.cells #[.int .u8 tos, .int .u16 id, .bool keep, .int .u8 ttl, .int .u8 17, .int .u32 src, .int .u32 dst, .slice a7 zo.length c7, .slice a8 ([] : List Int).length c8] 26)) := (Below.refl _ _).alloc (Nat.le_refl _) _
  have l02 := Later.trans hb1 l2
  have p2 := (l02.block w.heap.size (Array.getElem?_eq_some_iff.1 P0.out).1).trans P0.out
  have m2 := (l02.block (w.heap.size + 1) (Array.getElem?_eq_some_iff.1 M0.out).1).trans M0.out
  have r2 := (l02.block (w.heap.size + 1 + 1) (Array.getElem?_eq_some_iff.1 R0.out).1).trans R0.out
  have hw2 := hb0.trans (l02.mono hb0.size)
  have PP := block_cell p2
  have MM := block_cell m2
  rw [show ([] : List Int).length = 0 from rfl] at *
  by_cases c3 : 65535 < 20 + zo.length + (8 + zm.length)
  ·have t3 : (65535 : Int) < 28 + zo.length + zm.length := by omega
   rw [if_pos c3] at f0
   have HF := hide f0
   clear f0 c3
   have RR := block_cell r2
   have FF := block_frozen r2
   go_wp2_with fail
   generalize w1.alloc (.cells #[.int .u8 tos, .int .u16 id, .bool keep, .int .u8 ttl, .int .u8 17, .int .u32 src, .int .u32 dst, .slice a7 zo.length c7, .slice a8 0 c8] 26) = w2 at *
   generalize hV : ((((((((w2.setCell ⟨w.heap.size + 1 + 1, 0, none⟩ _).setCell ⟨w.heap.size + 1 + 1, 1, none⟩ _).setCell ⟨w.heap.size + 1 + 1, 2, none⟩ _).setCell ⟨w.heap.size + 1 + 1, 3, none⟩ _).setCell ⟨w.heap.size + 1 + 1, 4, none⟩ _).setCell ⟨w.heap.size + 1 + 1, 5, none⟩ _).setCell ⟨w.heap.size + 1 + 1, 6, none⟩ _).setCell ⟨w.heap.size + 1 + 1, 7, none⟩ _).setCell ⟨w.heap.size + 1 + 1, 8, none⟩ _ = V8
   have hV9 : V8 = putRow w2 (w.heap.size + 1 + 1) 0 [Value.int .u8 0, .int .u16 0, .bool false, .int .u8 0, .int .u8 0, .int .u32 0, .int .u32 0, .slice none 0 0, .slice none 0 0] := hV.symm
   have hb8 : But (fun b => b = w.heap.size + 1 + 1) w2 V8 := by rw [hV9]; exact putRow_but (E := fun b => b = w.heap.size + 1 + 1) (n := w.heap.size + 1 + 1) rfl _ _ _ _ (But.refl _ _)
   have p8 := putRow_all [Value.int .u8 0, .int .u16 0, .bool false, .int .u8 0, .int .u8 0, .int .u32 0, .int .u32 0, .slice none 0 0, .slice none 0 0] r2 rfl
   rw [← hV9] at p8
   clear hV hV9
   have P8 := block_cell p8
   have hw8 : Below w.heap.size w V8 := (hw2).trans (hb8.below (hw2).size (fun k h e => by omega))
   exact bodyPost_ret (v := .tuple #[.agg #[.int .u8 0, .int .u16 0, .bool false, .int .u8 0, .int .u8 0, .int .u32 0, .int .u32 0, .slice none 0 0, .slice none 0 0], .int .i64 8]) (by simp [results, Tryz.results26, go_sem, P8]) rfl (⟨hw8, .inl ⟨by rw [HF.out]; decide, by rw [HF.out]⟩⟩)
  ·have t3 : ¬ (65535 : Int) < 28 + zo.length + zm.length := by omega
   rw [if_neg c3] at f0
   have HF := hide f0
   clear f0
   go_upto_region 7 with fail
   generalize w1.alloc (.cells #[.int .u8 tos, .int .u16 id, .bool keep, .int .u8 ttl, .int .u8 17, .int .u32 src, .int .u32 dst, .slice a7 zo.length c7, .slice a8 0 c8] 26) = w2 at *
   clear PP MM l02 hb0
   have hsr2 := (Array.getElem?_eq_some_iff.1 r2).1
   go_cut [8] (fun v wx => Rw w2 v ([sp, dp].flatMap b2) wx)
   case first =>
    refine anyT_begin (R := But (fun b => w2.heap.size ≤ b)) 10 rfl (by kernel_rfl) ?_
    have R0 : Rw w2 (.slice none 0 0) [] w2.drew := Rw.nil (Later.drew w2)
    have md := R0.block m2
    generalize w2.drew = Wd at *
    have ha : ∀ v1, But (fun b => w2.heap.size ≤ b) Wd v1 → ∀ i, v1.cell? ⟨w.heap.size + 1, i, none⟩ = #[Value.int .u16 sp, .int .u16 dp, .bool bare, .slice am zm.length cm][i]? := fun v1 h => block_cell ((h.block (w.heap.size + 1) (Array.getElem?_eq_some_iff.1 md).1 (by omega)).trans md)
    refine anyT_val (But.pre _) 0 rfl (by kernel_rfl) (by kernel_rfl) (by kernel_rfl) (fun _ _ _ _ h => h) rfl ?_; apply Exists.intro; refine ⟨fun v1 hv1 => ?_, ?_⟩; (· (go_simp; rfl)); simp only [Act.put, sA, sB, sC]
    refine anyT_val (But.pre _) 1 rfl (by kernel_rfl) (by kernel_rfl) (by kernel_rfl) (fun _ _ _ _ h => h) rfl ?_; apply Exists.intro; refine ⟨fun v1 hv1 => ?_, ?_⟩; (· (go_simp; rfl)); simp only [Act.put, sA, sB, sC]
    refine anyT_val (But.pre _) 2 rfl (by kernel_rfl) (by kernel_rfl) (by kernel_rfl) (fun _ _ _ _ h => h) rfl ?_; apply Exists.intro; refine ⟨fun v1 hv1 => ?_, ?_⟩; (· (go_simp; rfl)); simp only [Act.put, sA, sB, sC]
    refine anyT_val (But.pre _) 5 rfl (by kernel_rfl) (by kernel_rfl) (by kernel_rfl) (fun _ _ _ _ h => h) rfl ?_; apply Exists.intro; refine ⟨fun v1 hv1 => ?_, ?_⟩; (· (go_simp; rfl)); simp only [Act.put, sA, sB, sC]
    refine anyT_val (But.pre _) 6 rfl (by kernel_rfl) (by kernel_rfl) (by kernel_rfl) (fun _ _ _ _ h => h) rfl ?_; apply Exists.intro; refine ⟨fun v1 hv1 => ?_, ?_⟩; (· (go_simp; rfl)); simp only [Act.put, sA, sB, sC]
    refine anyT_one 3 rfl (by kernel_rfl) rfl ?_
    refine wp_enter 68 #[.int .u16 sp] (by go_simp) ?_
    refine (two_any sp hsp Wd).mono ?_
    rintro e w4 ⟨rfl, rfl⟩
    have R4 := R0.later (later_two Wd (sp / 256) (sp % 256))
    have X4 := Rd.new2 (sp / 256) (sp % 256) 5 Wd
    refine ⟨But.of (later_two Wd _ _), ?_⟩
    simp only [Act.put, sA, sB, sC]
    generalize Wd.alloc (.cells #[.int .u8 (sp / 256), .int .u8 (sp % 256)] 5) = W4 at *
    refine anyT_one 4 rfl (by kernel_rfl) rfl ?_
    obtain ⟨v5, W5, hrun5, R5, bt5⟩ := R4.app 24 _ _ _ X4 (by simp)
    refine wp_app (.tmp 29) (.tmp 32) 24 rfl _ _ rfl rfl _ W5 hrun5 ⟨bt5, ?_⟩
    simp only [Act.put, sA, sB, sC]
    refine anyT_one 7 rfl (by kernel_rfl) rfl ?_
    refine wp_enter 68 #[.int .u16 dp] (by go_simp) ?_
    refine (two_any dp hdp W5).mono ?_
    rintro e w4 ⟨rfl, rfl⟩
    have R6 := R5.later (later_two W5 (dp / 256) (dp % 256))
    have X6 := Rd.new2 (dp / 256) (dp % 256) 5 W5
    refine ⟨But.of (later_two W5 _ _), ?_⟩
    simp only [Act.put, sA, sB, sC]
    generalize W5.alloc (.cells #[.int .u8 (dp / 256), .int .u8 (dp % 256)] 5) = W6 at *
    refine anyT_one 8 rfl (by kernel_rfl) rfl ?_
    obtain ⟨v7, W7, hrun7, R7, bt7⟩ := R6.app 24 _ _ _ X6 (by simp)
    refine wp_app (.tmp 33) (.tmp 36) 24 rfl _ _ rfl rfl _ W7 hrun7 ⟨bt7, ?_⟩
    simp only [Act.put, sA, sB, sC]
    refine anyT_one 9 rfl (by kernel_rfl) rfl ?_
    unfold Oper.wp
    go_simp
    refine ⟨But.refl _ _, ?_⟩
    refine anyT_done (by kernel_rfl) ?_
    clear ha hrun5 hrun7
    go_wp2_with fail
    go_meet
    case rel => exact R7
   case rest =>
    have R3 : Rw w2 _ ([sp, dp].flatMap b2) wc := hcut
    clear hcut
    have mc := block_cell (R3.block m2)
    have hl8 : (8 + (zm.length : Int)) % 65536 = 8 + zm.length := by omega
    have hw8 : 8 + (zm.length : Int) ≤ 65535 := by omega
    go_wp2_with fail
    refine (two_any (8 + zm.length) (by omega) wc).mono ?_
    rintro e w4 ⟨rfl, rfl⟩
    have R4 := R3.later (later_two wc ((8 + zm.length) / 256) ((8 + zm.length) % 256))
    have X4 := Rd.new2 ((8 + (zm.length : Int)) / 256) ((8 + zm.length) % 256) 5 wc
    clear mc
    generalize wc.alloc (.cells #[.int .u8 ((8 + (zm.length : Int)) / 256), .int .u8 ((8 + zm.length) % 256)] 5) = W4 at *
    generalize some (⟨wc.heap.size, 0, none⟩ : Addr) = a4 at *
    go_wp2_with (at_builtin; go_loud (refine wpList_rw _ rfl (.tmp 38) (.tmp 44) rfl R4 rfl _ _ _ rfl X4 (by simp [b2]) ?_; intro v5 W5 R5; refine Hid.out ?_))
    have R6 := R5.later (later_two W5 0 0)
    have X6 := Rd.new2 0 0 5 W5
    show wpList _ _ _ _ _ _
    go_wp2_with (at_builtin; go_loud (refine wpList_rw _ rfl (.tmp 45) (.tmp 46) rfl R6 rfl _ _ _ rfl X6 (by simp [b2]) ?_; intro v7 W7 R7; refine Hid.out ?_))
    have m7 := block_cell (R7.block m2)
    have hRm : Rd w.heap.size W7 (.slice am zm.length cm) zm := hIm.below (hw2.trans (R7.2.mono hw2.size))
    show wpList _ _ _ _ _ _
    go_wp2_with (at_builtin; go_loud (refine wpList_rw _ rfl (.tmp 48) (.tmp 50) rfl R7 rfl _ _ _ rfl hRm (by simp [b2]; omega) ?_; intro v8 W8 R8; refine Hid.out ?_))
    have hlist : (([sp, dp].flatMap b2 ++ [(8 + (zm.length : Int)) / 256, (8 + zm.length) % 256]) ++ [0, 0]) ++ zm = udp0 sp dp zm := by unfold udp0; rw [hl8]; simp [b2]
    rw [hlist] at R8
    have m8 := block_cell (R8.block m2)
    have p8 := block_cell (R8.block p2)
    have r8 := R8.block r2
    have hO8 := R8.ow
    have hw8' := hw2.trans (R8.2.mono hw2.size)
    clear m7 R3 R4 R5 R6 R7 X4 X6 hRm hlist
    show wpList _ _ _ _ _ _
    have pb := R8.block p2
    obtain ⟨a8', c8', rfl, _, _⟩ := hO8.slice
    have hBu : Mt.By (udp0 sp dp zm) := By_udp0 sp dp zm hsp hdp hBd
    have hlu := udp0_length sp dp zm
    have HLC := hide (udp_length sp dp bare src dst zm)
    have HLU := hide hlu
    clear hlu
    have hz : 8 + zm.length ≤ 65535 := by omega
    clear hl8 t3 hw8 R8
    cases bare
    ·have HUD : Hid (putAt2 (udp0 sp dp zm) 6 (usm src dst 17 (udp0 sp dp zm)) = udp sp dp false src dst zm) := by show _ = _; unfold putAt2 udp; rw [if_pos (by rw [HLU.out]; omega)]; rfl
     have hub := usm_bd src dst 17 (udp0 sp dp zm)
     generalize udp0 sp dp zm = bb at *
     go_wp2_with fail
     refine (rsum3_any tos id ttl proto src dst 17 keep _ _ _ bb W8 hBu hO8.rd (by rw [HLU.out]; omega) (by omega) hsr hds).mono ?_
     rintro e W9 ⟨rfl, hb9⟩
     have HU : Hid (usm src dst 17 bb = if Mt.cks (psd src dst 17 bb.length ++ bb) = 0 then 65535 else Mt.cks (psd src dst 17 bb.length ++ bb)) := rfl
     generalize Mt.cks (psd src dst 17 bb.length ++ bb) = c at *
     by_cases hc : c = 0
     ·subst hc
      rw [show usm src dst 17 bb = 65535 from HU.out] at HUD
      clear HU hub
      go_wp2_with fail
      refine (rput16_any _ bb 6 65535 (by omega) (by rw [HLU.out]; omega) W9 (hO8.later hb9).rd (by omega)).mono ?_
      rintro e W10 ⟨rv, rfl, hO10, hb10⟩
      rw [HUD.out] at hO10
      obtain ⟨a10, c10, rfl, _, _⟩ := hO10.slice
      have l10 : Later W8 W10 := Later.trans hb9 hb10
      have p10 := block_cell (later_keep l10 pb)
      go_wp2_with fail
      have pn := block_cell (later_keep l10 pb)
      have rn := later_keep l10 r8
      have hwn := hw8'.trans ((l10).mono hw8'.size)
      refine (rwith_any tos id ttl proto src dst 17 keep _ _ ad ld cd zo (udp sp dp false src dst zm) W10 ((hIo.below hwn).mono hwn.size) hO10.rd h1 (by rw [HLC.out]; omega)).mono ?_
      rw [HLC.out, HF.out]
      rintro e WX ⟨hbX, ⟨hx, _⟩ | ⟨_, a9, c9, ad9, cd9, rfl, hO9, hD9⟩⟩
      case inl => exact absurd rfl hx
      have rX := later_keep hbX rn
      have hwX := hwn.trans (hbX.mono hwn.size)
      have kX := block_cell rX
      have fX := block_frozen rX
      clear pn m8 p8
      go_wp2_with fail
      generalize hV : ((((((((WX.setCell ⟨w.heap.size + 1 + 1, 0, none⟩ _).setCell ⟨w.heap.size + 1 + 1, 1, none⟩ _).setCell ⟨w.heap.size + 1 + 1, 2, none⟩ _).setCell ⟨w.heap.size + 1 + 1, 3, none⟩ _).setCell ⟨w.heap.size + 1 + 1, 4, none⟩ _).setCell ⟨w.heap.size + 1 + 1, 5, none⟩ _).setCell ⟨w.heap.size + 1 + 1, 6, none⟩ _).setCell ⟨w.heap.size + 1 + 1, 7, none⟩ _).setCell ⟨w.heap.size + 1 + 1, 8, none⟩ _ = V
      have hV8 : V = putRow WX (w.heap.size + 1 + 1) 0 [.int .u8 tos, .int .u16 id, .bool keep, .int .u8 ttl, .int .u8 17, .int .u32 src, .int .u32 dst, .slice a9 zo.length c9, .slice ad9 (8 + zm.length) cd9] := hV.symm
      have hbV : But (fun b => b = w.heap.size + 1 + 1) WX V := by rw [hV8]; exact putRow_rb _ _
      have pV := putRow_all [Value.int .u8 tos, .int .u16 id, .bool keep, .int .u8 ttl, .int .u8 17, .int .u32 src, .int .u32 dst, .slice a9 zo.length c9, .slice ad9 (8 + zm.length) cd9] rX rfl
      rw [← hV8] at pV
      clear hV hV8 kX fX
      have PV := block_cell pV
      have hwV : Below w.heap.size w V := hwX.trans (hbV.below hwX.size (fun k hk e => by omega))
      exact bodyPost_ret (v := .tuple #[.agg #[.int .u8 tos, .int .u16 id, .bool keep, .int .u8 ttl, .int .u8 17, .int .u32 src, .int .u32 dst, .slice a9 zo.length c9, .slice ad9 (8 + zm.length) cd9], .int .i64 0]) (by simp [results, Tryz.results26, go_sem, PV]) rfl ⟨hwV, .inr ⟨HF.out, a9, c9, ad9, cd9, rfl, (hO9.apart rX (by decide) hbV).mono hwn.size, (hD9.apart rX (by decide) hbV).mono hwn.size⟩⟩
     ·have hu : usm src dst 17 bb = c := HU.out.trans (if_neg hc)
      rw [hu] at HUD hub
      have hc' : (c == 0) = false := by simp [hc]
      clear HU hu hc
      go_wp2_with fail
      refine (rput16_any _ bb 6 c (by omega) (by rw [HLU.out]; omega) W9 (hO8.later hb9).rd (by omega)).mono ?_
      rintro e W10 ⟨rv, rfl, hO10, hb10⟩
      rw [HUD.out] at hO10
      obtain ⟨a10, c10, rfl, _, _⟩ := hO10.slice
      have l10 : Later W8 W10 := Later.trans hb9 hb10
      have p10 := block_cell (later_keep l10 pb)
      go_wp2_with fail
      have pn := block_cell (later_keep l10 pb)
      have rn := later_keep l10 r8
      have hwn := hw8'.trans ((l10).mono hw8'.size)
      refine (rwith_any tos id ttl proto src dst 17 keep _ _ ad ld cd zo (udp sp dp false src dst zm) W10 ((hIo.below hwn).mono hwn.size) hO10.rd h1 (by rw [HLC.out]; omega)).mono ?_
      rw [HLC.out, HF.out]
      rintro e WX ⟨hbX, ⟨hx, _⟩ | ⟨_, a9, c9, ad9, cd9, rfl, hO9, hD9⟩⟩
      case inl => exact absurd rfl hx
      have rX := later_keep hbX rn
      have hwX := hwn.trans (hbX.mono hwn.size)
      have kX := block_cell rX
      have fX := block_frozen rX
      clear pn m8 p8
      go_wp2_with fail
      generalize hV : ((((((((WX.setCell ⟨w.heap.size + 1 + 1, 0, none⟩ _).setCell ⟨w.heap.size + 1 + 1, 1, none⟩ _).setCell ⟨w.heap.size + 1 + 1, 2, none⟩ _).setCell ⟨w.heap.size + 1 + 1, 3, none⟩ _).setCell ⟨w.heap.size + 1 + 1, 4, none⟩ _).setCell ⟨w.heap.size + 1 + 1, 5, none⟩ _).setCell ⟨w.heap.size + 1 + 1, 6, none⟩ _).setCell ⟨w.heap.size + 1 + 1, 7, none⟩ _).setCell ⟨w.heap.size + 1 + 1, 8, none⟩ _ = V
      have hV8 : V = putRow WX (w.heap.size + 1 + 1) 0 [.int .u8 tos, .int .u16 id, .bool keep, .int .u8 ttl, .int .u8 17, .int .u32 src, .int .u32 dst, .slice a9 zo.length c9, .slice ad9 (8 + zm.length) cd9] := hV.symm
      have hbV : But (fun b => b = w.heap.size + 1 + 1) WX V := by rw [hV8]; exact putRow_rb _ _
      have pV := putRow_all [Value.int .u8 tos, .int .u16 id, .bool keep, .int .u8 ttl, .int .u8 17, .int .u32 src, .int .u32 dst, .slice a9 zo.length c9, .slice ad9 (8 + zm.length) cd9] rX rfl
      rw [← hV8] at pV
      clear hV hV8 kX fX
      have PV := block_cell pV
      have hwV : Below w.heap.size w V := hwX.trans (hbV.below hwX.size (fun k hk e => by omega))
      exact bodyPost_ret (v := .tuple #[.agg #[.int .u8 tos, .int .u16 id, .bool keep, .int .u8 ttl, .int .u8 17, .int .u32 src, .int .u32 dst, .slice a9 zo.length c9, .slice ad9 (8 + zm.length) cd9], .int .i64 0]) (by simp [results, Tryz.results26, go_sem, PV]) rfl ⟨hwV, .inr ⟨HF.out, a9, c9, ad9, cd9, rfl, (hO9.apart rX (by decide) hbV).mono hwn.size, (hD9.apart rX (by decide) hbV).mono hwn.size⟩⟩
    ·rw [show udp0 sp dp zm = udp sp dp true src dst zm from rfl] at *
     go_wp2_with fail
     have pn := block_cell (later_keep (Later.refl W8) pb)
     have rn := later_keep (Later.refl W8) r8
     have hwn := hw8'.trans (((Later.refl W8)).mono hw8'.size)
     refine (rwith_any tos id ttl proto src dst 17 keep _ _ ad ld cd zo (udp sp dp true src dst zm) W8 ((hIo.below hwn).mono hwn.size) hO8.rd h1 (by rw [HLC.out]; omega)).mono ?_
     rw [HLC.out, HF.out]
     rintro e WX ⟨hbX, ⟨hx, _⟩ | ⟨_, a9, c9, ad9, cd9, rfl, hO9, hD9⟩⟩
     case inl => exact absurd rfl hx
     have rX := later_keep hbX rn
     have hwX := hwn.trans (hbX.mono hwn.size)
     have kX := block_cell rX
     have fX := block_frozen rX
     clear pn m8 p8
     go_wp2_with fail
     generalize hV : ((((((((WX.setCell ⟨w.heap.size + 1 + 1, 0, none⟩ _).setCell ⟨w.heap.size + 1 + 1, 1, none⟩ _).setCell ⟨w.heap.size + 1 + 1, 2, none⟩ _).setCell ⟨w.heap.size + 1 + 1, 3, none⟩ _).setCell ⟨w.heap.size + 1 + 1, 4, none⟩ _).setCell ⟨w.heap.size + 1 + 1, 5, none⟩ _).setCell ⟨w.heap.size + 1 + 1, 6, none⟩ _).setCell ⟨w.heap.size + 1 + 1, 7, none⟩ _).setCell ⟨w.heap.size + 1 + 1, 8, none⟩ _ = V
     have hV8 : V = putRow WX (w.heap.size + 1 + 1) 0 [.int .u8 tos, .int .u16 id, .bool keep, .int .u8 ttl, .int .u8 17, .int .u32 src, .int .u32 dst, .slice a9 zo.length c9, .slice ad9 (8 + zm.length) cd9] := hV.symm
     have hbV : But (fun b => b = w.heap.size + 1 + 1) WX V := by rw [hV8]; exact putRow_rb _ _
     have pV := putRow_all [Value.int .u8 tos, .int .u16 id, .bool keep, .int .u8 ttl, .int .u8 17, .int .u32 src, .int .u32 dst, .slice a9 zo.length c9, .slice ad9 (8 + zm.length) cd9] rX rfl
     rw [← hV8] at pV
     clear hV hV8 kX fX
     have PV := block_cell pV
     have hwV : Below w.heap.size w V := hwX.trans (hbV.below hwX.size (fun k hk e => by omega))
     exact bodyPost_ret (v := .tuple #[.agg #[.int .u8 tos, .int .u16 id, .bool keep, .int .u8 ttl, .int .u8 17, .int .u32 src, .int .u32 dst, .slice a9 zo.length c9, .slice ad9 (8 + zm.length) cd9], .int .i64 0]) (by simp [results, Tryz.results26, go_sem, PV]) rfl ⟨hwV, .inr ⟨HF.out, a9, c9, ad9, cd9, rfl, (hO9.apart rX (by decide) hbV).mono hwn.size, (hD9.apart rX (by decide) hbV).mono hwn.size⟩⟩
end Go.Proofs.YtghpakfjpdifaaaGreatDoor

/- The document's answers for packets: Right, Same, header, Build. -/
namespace Go.Proofs.YtghpakfjpdifaaaGreatDoor
open Go.RowKit Go.Shelf
set_option maxRecDepth 100000
set_option linter.unusedVariables false

set_option maxHeartbeats 1000000 in
theorem rright_any (tos id ttl proto src dst : Int) (keep : Bool) (ao ad : Option Addr) (lo co ld cd : Nat) (w : World) (h1 : lo ≤ 140737488355328) (h2 : ld ≤ 140737488355328) :
  Calls Tryz.prog 25 #[.agg #[.int .u8 tos, .int .u16 id, .bool keep, .int .u8 ttl, .int .u8 proto, .int .u32 src, .int .u32 dst, .slice ao lo co, .slice ad ld cd]] w fun e w' => e = .returned (.bool (flt lo ld == 0)) ∧ Below w.heap.size w w' := by
 have hbox : Below w.heap.size w (w.alloc (.cells #[.int .u8 tos, .int .u16 id, .bool keep, .int .u8 ttl, .int .u8 proto, .int .u32 src, .int .u32 dst, .slice ao lo co, .slice ad ld cd] 26)) := (Below.refl _ _).alloc (Nat.le_refl _) _
 by_cases c1 : lo ≤ 40
 ·have t1 : (lo : Int) ≤ 40 := by omega
  by_cases c2 : lo % 4 = 0
  ·have t2 : ((lo : Int) % 4 == 0) = true := by simp; omega
   by_cases c3 : 20 + lo + ld ≤ 65535
   ·have t3 : (20 : Int) + lo + ld ≤ 65535 := by omega
    have HF : Hid (flt lo ld = 0) := by show _ = _; unfold flt; rw [if_neg (by omega), if_neg (by omega)]
    clear c1 c2 c3
    go_enter Tryz.func25, Tryz.ntmps25
    go_wp2
    go_ret
    exact ⟨by rw [HF.out]; rfl, hbox⟩
   ·have t3 : ¬ (20 : Int) + lo + ld ≤ 65535 := by omega
    have HF : Hid (flt lo ld = 8) := by show _ = _; unfold flt; rw [if_neg (by omega), if_pos (by omega)]
    clear c1 c2 c3
    go_enter Tryz.func25, Tryz.ntmps25
    go_wp2
    go_ret
    exact ⟨by rw [HF.out]; rfl, hbox⟩
  ·have t2 : ((lo : Int) % 4 == 0) = false := by simp; omega
   have HF : Hid (flt lo ld = 4) := by show _ = _; unfold flt; rw [if_pos (by omega)]
   clear c1 c2
   go_enter Tryz.func25, Tryz.ntmps25
   go_wp2
   go_ret
   exact ⟨by rw [HF.out]; rfl, hbox⟩
 ·have t1 : ¬ (lo : Int) ≤ 40 := by omega
  have HF : Hid (flt lo ld = 4) := by show _ = _; unfold flt; rw [if_pos (by omega)]
  clear c1
  go_enter Tryz.func25, Tryz.ntmps25
  go_wp2
  go_ret
  exact ⟨by rw [HF.out]; rfl, hbox⟩

set_option maxHeartbeats 4000000 in
theorem rsame_any (tos1 id1 ttl1 proto1 src1 dst1 tos2 id2 ttl2 proto2 src2 dst2 : Int) (keep1 keep2 : Bool) (so1 sd1 so2 sd2 : Value) (zo1 zd1 zo2 zd2 : List Int) (w : World)
  (hO1 : Mt.By zo1) (hD1 : Mt.By zd1) (hO2 : Mt.By zo2) (hD2 : Mt.By zd2) (hIo1 : Rd w.heap.size w so1 zo1) (hId1 : Rd w.heap.size w sd1 zd1) (hIo2 : Rd w.heap.size w so2 zo2) (hId2 : Rd w.heap.size w sd2 zd2) :
  Calls Tryz.prog 8 #[.agg #[.int .u8 tos1, .int .u16 id1, .bool keep1, .int .u8 ttl1, .int .u8 proto1, .int .u32 src1, .int .u32 dst1, so1, sd1], .agg #[.int .u8 tos2, .int .u16 id2, .bool keep2, .int .u8 ttl2, .int .u8 proto2, .int .u32 src2, .int .u32 dst2, so2, sd2]] w fun e w' => e = .returned (.bool (smP tos1 id1 ttl1 proto1 src1 dst1 tos2 id2 ttl2 proto2 src2 dst2 keep1 keep2 zo1 zd1 zo2 zd2)) ∧ Below w.heap.size w w' := by
 have hbox := ((Below.refl w.heap.size w).alloc (Nat.le_refl _) (.cells #[.int .u8 tos1, .int .u16 id1, .bool keep1, .int .u8 ttl1, .int .u8 proto1, .int .u32 src1, .int .u32 dst1, so1, sd1] 26)).alloc (by simp) (.cells #[.int .u8 tos2, .int .u16 id2, .bool keep2, .int .u8 ttl2, .int .u8 proto2, .int .u32 src2, .int .u32 dst2, so2, sd2] 26)
 have HA := hide (hIo1.below hbox)
 have HB := hide (hId1.below hbox)
 have HC := hide (hIo2.below hbox)
 have HE := hide (hId2.below hbox)
 obtain ⟨ao1, co1, rfl, _, _⟩ := hIo1.slice
 obtain ⟨ad1, cd1, rfl, _, _⟩ := hId1.slice
 obtain ⟨ao2, co2, rfl, _, _⟩ := hIo2.slice
 obtain ⟨ad2, cd2, rfl, _, _⟩ := hId2.slice
 have HS : Hid (smP tos1 id1 ttl1 proto1 src1 dst1 tos2 id2 ttl2 proto2 src2 dst2 keep1 keep2 zo1 zd1 zo2 zd2 = (tos1 == tos2 && (id1 == id2 && (keep1 == keep2 && (ttl1 == ttl2 && (proto1 == proto2 && (src1 == src2 && (dst1 == dst2 && (decide (zo1 = zo2) && decide (zd1 = zd2)))))))))) := rfl
 generalize smP tos1 id1 ttl1 proto1 src1 dst1 tos2 id2 ttl2 proto2 src2 dst2 keep1 keep2 zo1 zd1 zo2 zd2 = r at *
 clear hIo1 hId1 hIo2 hId2
 cases h0 : (tos1 == tos2)
 ·rw [h0] at HS
  go_enter Tryz.func8, Tryz.ntmps8
  go_wp2
  go_ret
  exact ⟨by rw [HS.out]; rfl, hbox⟩
 ·rw [h0] at HS
  cases h1 : (id1 == id2)
  ·rw [h1] at HS
   go_enter Tryz.func8, Tryz.ntmps8
   go_wp2
   go_ret
   exact ⟨by rw [HS.out]; rfl, hbox⟩
  ·rw [h1] at HS
   cases h2 : (keep1 == keep2)
   ·rw [h2] at HS
    go_enter Tryz.func8, Tryz.ntmps8
    go_wp2
    go_ret
    exact ⟨by rw [HS.out]; rfl, hbox⟩
   ·rw [h2] at HS
    cases h3 : (ttl1 == ttl2)
    ·rw [h3] at HS
     go_enter Tryz.func8, Tryz.ntmps8
     go_wp2
     go_ret
     exact ⟨by rw [HS.out]; rfl, hbox⟩
    ·rw [h3] at HS
     cases h4 : (proto1 == proto2)
     ·rw [h4] at HS
      go_enter Tryz.func8, Tryz.ntmps8
      go_wp2
      go_ret
      exact ⟨by rw [HS.out]; rfl, hbox⟩
     ·rw [h4] at HS
      cases h5 : (src1 == src2)
      ·rw [h5] at HS
       go_enter Tryz.func8, Tryz.ntmps8
       go_wp2
       go_ret
       exact ⟨by rw [HS.out]; rfl, hbox⟩
      ·rw [h5] at HS
       cases h6 : (dst1 == dst2)
       ·rw [h6] at HS
        go_enter Tryz.func8, Tryz.ntmps8
        go_wp2
        go_ret
        exact ⟨by rw [HS.out]; rfl, hbox⟩
       ·rw [h6] at HS
        simp only [Bool.true_and] at HS
        have ca := conv_rd 24 9 5 Tryz.underlying24 Tryz.underlying5 Tryz.underlying9 HA.out
        have cb := conv_rd 24 9 5 Tryz.underlying24 Tryz.underlying5 Tryz.underlying9 HB.out
        have cc := conv_rd 24 9 5 Tryz.underlying24 Tryz.underlying5 Tryz.underlying9 HC.out
        have ce := conv_rd 24 9 5 Tryz.underlying24 Tryz.underlying5 Tryz.underlying9 HE.out
        have e1 := str_eq hO1 hO2
        have e2 := str_eq hD1 hD2
        generalize strOfNums zo1 = s1 at *
        generalize strOfNums zo2 = s2 at *
        generalize strOfNums zd1 = s3 at *
        generalize strOfNums zd2 = s4 at *
        clear HA HB HC HE hO1 hO2 hD1 hD2
        cases h7 : decide (zo1 = zo2)
        ·rw [h7] at HS e1
         go_enter Tryz.func8, Tryz.ntmps8
         go_wp2
         go_ret
         exact ⟨by rw [HS.out]; rfl, hbox⟩
        ·rw [h7] at HS e1
         go_enter Tryz.func8, Tryz.ntmps8
         go_wp2
         go_ret
         exact ⟨by rw [HS.out]; rfl, hbox⟩
end Go.Proofs.YtghpakfjpdifaaaGreatDoor

/- A guarded operation that is not wanted is passed over. -/
namespace Go.Proofs.YtghpakfjpdifaaaGreatDoor
open Go.RowKit Go.Shelf
set_option maxRecDepth 100000
set_option linter.unusedVariables false
set_option linter.unusedSimpArgs false

section
variable {P : Program} {l : List Oper} {Q : Exit → Act → World → Prop} {fuel : Nat} {listed : Array Bool} {a : Act} {w : World} {R : World → World → Prop}
end

end Go.Proofs.YtghpakfjpdifaaaGreatDoor

/- Layer 10: live, told; the walk of MangleTuple. -/
namespace Go.Proofs.YtghpakfjpdifaaaGreatDoor
open Go.RowKit Go.Shelf
set_option maxRecDepth 100000
set_option linter.unusedVariables false
set_option linter.unusedSimpArgs false

theorem zero_rd' (W : World) : Rd W.heap.size W (.slice none 0 0) [] := .inl ⟨_, _, rfl, rfl, by omega, fun _ => rfl⟩
theorem udp_lv : Mt.By (udp 3 4 false 1 2 []) ∧ (udp 3 4 false 1 2 []).length = 8 ∧ ofe 17 1 2 (udp 3 4 false 1 2 []) = 0 := by
 refine ⟨?_, ?_, ?_⟩
 ·intro z hz
  revert z
  decide +kernel
 ·decide +kernel
 ·decide +kernel

set_option maxHeartbeats 8000000 in
theorem live10_any (w : World) (hT : Tb w) : Calls Tryz.prog 7 #[] w fun e w' => e = .returned (.bool true) ∧ Later w w' := by
 obtain ⟨hB0, hL0, hO0⟩ := udp_lv
 have HU := hide (rbuildUdp_any 0 0 0 0 1 2 3 4 false false (.slice none 0 0) (.slice none 0 0) none 0 0 [] [] w (zero_rd' w) Mt.By.nil (zero_rd' w) (by simp) (by simp) (by omega) (by omega) (by omega) (by omega))
 generalize udp 3 4 false 1 2 [] = zu at *
 go_enter Tryz.func7, Tryz.ntmps7
 go_wp2_with fail
 refine HU.out.mono ?_
 rintro e w1 ⟨hb1, ⟨hf, _⟩ | ⟨hf, a7, c7, a8, c8, rfl, hO7, hO8⟩⟩
 ·exact absurd (by decide) hf
 simp only [List.length_nil, Nat.add_zero] at *
 have l1 : Later w w1 := hb1
 have HL0 := hide hL0
 have HO0 := hide hO0
 have hT1 := hT.below hb1 hT.pos
 have kp := heap_alloc_new w1 (.cells #[.int .u8 0, .int .u16 0, .bool false, .int .u8 0, .int .u8 17, .int .u32 1, .int .u32 2, .slice a7 0 c7, .slice a8 8 c8] 26)
 have l2 := later_alloc' w1 (.cells #[.int .u8 0, .int .u16 0, .bool false, .int .u8 0, .int .u8 17, .int .u32 1, .int .u32 2, .slice a7 0 c7, .slice a8 8 c8] 26)
 have KP := hide kp
 clear hL0 hO0 HU hb1 hf kp
 go_upto_region 2 with fail
 generalize w1.alloc _ = w2 at *
 have HR := hide (rewrite_any 0 0 0 17 1 2 false (.slice a7 0 c7) (.slice a8 8 c8) [] zu 17 5 2 6 4 w2 (hT1.below l2 hT1.pos) Mt.By.nil hB0 ((hO7.later l2).rd) ((hO8.later l2).rd) (by simp) (by rw [HL0.out]; omega) (by omega) (by omega) (by omega) (by omega) (by omega) (by omega) (by omega) (by omega) (by omega) (by omega))
 have HZ : Hid (rwe 17 17 1 2 ([] : List Int).length zu = 0) := by show _ = _; unfold rwe; rw [if_neg (by simp), HO0.out, if_neg (by simp), HL0.out]; rfl
 have HTL := hide (rwD_tells (s := 5) (d := 2) (a := 6) (b := 4) hB0 HO0.out (by omega) (by omega) (by omega) (by omega))
 have HBR := hide (rwD_by (pr := 17) (s := 5) (d := 2) hB0 (a := 6) (b := 4) (by omega) (by omega))
 have HLR := hide (rwD_length 17 5 2 6 4 zu)
 generalize rwD 17 5 2 6 4 zu = zr at *
 have kP := block_cell KP.out
 go_wp2_with fail
 refine HR.out.mono ?_
 rintro e w3 ⟨hb3, ⟨hf, _⟩ | ⟨hf, ao, co, ad, cd, rfl, hOo, hOd⟩⟩
 ·exact absurd HZ.out hf
 have l3 : Later w2 w3 := hb3
 rw [HL0.out] at hOd ⊢
 simp only [List.length_nil] at *
 have kq := heap_alloc_new w3 (.cells #[.int .u8 0, .int .u16 0, .bool false, .int .u8 0, .int .u8 17, .int .u32 5, .int .u32 2, .slice ao 0 co, .slice ad 8 cd] 26)
 have l4 := later_alloc' w3 (.cells #[.int .u8 0, .int .u16 0, .bool false, .int .u8 0, .int .u8 17, .int .u32 5, .int .u32 2, .slice ao 0 co, .slice ad 8 cd] 26)
 have KQ := hide kq
 clear kP HR hf hb3 kq
 go_upto_region 3 with fail
 generalize w3.alloc _ = w4 at *
 have kQ := block_cell KQ.out
 have HOF := hide (rof_any 0 0 0 17 5 2 false (.slice ao 0 co) (.slice ad 8 cd) zr w4 HBR.out (hOd.later l4).rd (by rw [HLR.out, HL0.out]; omega) (by omega) (by omega))
 rw [HTL.out.1, HTL.out.2.1, HTL.out.2.2, otv_ok] at HOF
 simp only [show (if (17 : Int) = 47 then (0 : Int) else 6) = 6 from rfl, show (if (17 : Int) = 1 then (6 : Int) else 4) = 4 from rfl] at HOF
 go_wp2_with fail
 refine HOF.out.mono ?_
 rintro e w5 ⟨hb5, rfl⟩
 have l5 : Later w4 w5 := hb5
 go_wp2_with fail
 go_ret
 exact ⟨rfl, l1.trans (l2.trans (l3.trans (l4.trans (l5.trans (later_alloc' _ _)))))⟩
end Go.Proofs.YtghpakfjpdifaaaGreatDoor

/- Package mangle: what a requoted error tells. -/
namespace Go.Proofs.YtghpakfjpdifaaaGreatDoor
open Go.RowKit Go.Shelf
set_option maxRecDepth 100000
set_option linter.unusedVariables false
set_option linter.unusedSimpArgs false

end Go.Proofs.YtghpakfjpdifaaaGreatDoor

/- The document's patches of a tuple's words, and what it does behind a quoted header. -/
namespace Go.Proofs.YtghpakfjpdifaaaGreatDoor
open Go.RowKit Go.Shelf
set_option maxRecDepth 100000
set_option linter.unusedVariables false
set_option linter.unusedSimpArgs false

set_option maxHeartbeats 8000000 in
theorem rpatched_any (p1 s1 d1 a1 b1 pr s d a b c : Int) (w : World) (hc0 : 0 ≤ c ∧ c ≤ 65535) (hs1 : 0 ≤ s1 ∧ s1 ≤ 4294967295) (hd1 : 0 ≤ d1 ∧ d1 ≤ 4294967295) (ha1 : 0 ≤ a1 ∧ a1 ≤ 65535) (hb1 : 0 ≤ b1 ∧ b1 ≤ 65535) (hs : 0 ≤ s ∧ s ≤ 4294967295) (hd : 0 ≤ d ∧ d ≤ 4294967295) (ha : 0 ≤ a ∧ a ≤ 65535) (hb : 0 ≤ b ∧ b ≤ 65535) :
  Calls Tryz.prog 66 #[.int .u16 c, .agg #[.int .u8 p1, .int .u32 s1, .int .u32 d1, .int .u16 a1, .int .u16 b1], .agg #[.int .u8 pr, .int .u32 s, .int .u32 d, .int .u16 a, .int .u16 b]] w fun e w' => e = .returned (.int .u16 (ptch ⟨p1, s1, d1, a1, b1, pr, s, d, a, b⟩ c)) ∧ Later w w' := by
 have HP : Hid (ptch ⟨p1, s1, d1, a1, b1, pr, s, d, a, b⟩ c = pk [s1 / 65536, s1 % 65536, d1 / 65536, d1 % 65536, a1, b1] [s / 65536, s % 65536, d / 65536, d % 65536, a, b] c 6) := rfl
 have e1 : IntKind.u16.wrap (s / 65536) = s / 65536 := by rw [IntKind.wrap_u16]; omega
 have e2 : IntKind.u16.wrap (d / 65536) = d / 65536 := by rw [IntKind.wrap_u16]; omega
 have e3 : IntKind.u16.wrap (s1 / 65536) = s1 / 65536 := by rw [IntKind.wrap_u16]; omega
 have e4 : IntKind.u16.wrap (d1 / 65536) = d1 / 65536 := by rw [IntKind.wrap_u16]; omega
 have e5 : IntKind.u16.wrap s = s % 65536 := by rw [IntKind.wrap_u16]
 have e6 : IntKind.u16.wrap d = d % 65536 := by rw [IntKind.wrap_u16]
 have e7 : IntKind.u16.wrap s1 = s1 % 65536 := by rw [IntKind.wrap_u16]
 have e8 : IntKind.u16.wrap d1 = d1 % 65536 := by rw [IntKind.wrap_u16]
 have lw : Later w ((w.alloc (.cells #[.int .u8 p1, .int .u32 s1, .int .u32 d1, .int .u16 a1, .int .u16 b1] 29)).alloc (.cells #[.int .u8 pr, .int .u32 s, .int .u32 d, .int .u16 a, .int .u16 b] 29)) := (later_alloc9 w _).trans (later_alloc9 _ _)
 have rW : ((w.alloc (.cells #[.int .u8 p1, .int .u32 s1, .int .u32 d1, .int .u16 a1, .int .u16 b1] 29)).alloc (.cells #[.int .u8 pr, .int .u32 s, .int .u32 d, .int .u16 a, .int .u16 b] 29)).heap[w.heap.size]? = some (.cells #[.int .u8 p1, .int .u32 s1, .int .u32 d1, .int .u16 a1, .int .u16 b1] 29 (0, 0)) := by rw [(later_alloc9 _ _).block w.heap.size (by simp)]; exact heap_alloc_new _ _
 have rT := heap_alloc_new (w.alloc (.cells #[.int .u8 p1, .int .u32 s1, .int .u32 d1, .int .u16 a1, .int .u16 b1] 29)) (.cells #[.int .u8 pr, .int .u32 s, .int .u32 d, .int .u16 a, .int .u16 b] 29)
 rw [World.size_alloc] at rT
 have RW := hide rW
 have RT := hide rT
 clear rW rT
 go_enter Tryz.func66, Tryz.ntmps66
 go_upto_region 1 with fail
 generalize (w.alloc (.cells #[.int .u8 p1, .int .u32 s1, .int .u32 d1, .int .u16 a1, .int .u16 b1] 29)).alloc (.cells #[.int .u8 pr, .int .u32 s, .int .u32 d, .int .u16 a, .int .u16 b] 29) = w1 at *
 have kW := block_cell RW.out
 have kT := block_cell RT.out
 have lA := later_alloc9 w1 (.cells #[.int .u16 (s1 / 65536), .int .u16 (s1 % 65536), .int .u16 (d1 / 65536), .int .u16 (d1 % 65536), .int .u16 a1, .int .u16 b1] 22)
 have A2 := hide (heap_alloc_new w1 (.cells #[.int .u16 (s1 / 65536), .int .u16 (s1 % 65536), .int .u16 (d1 / 65536), .int .u16 (d1 % 65536), .int .u16 a1, .int .u16 b1] 22))
 have T2 := hide (later_keep lA RT.out)
 go_upto_region 2 with fail
 generalize w1.alloc _ = w2 at *
 generalize w1.heap.size = ga at *
 clear kW kT
 have kT := block_cell T2.out
 have lB := later_alloc9 w2 (.cells #[.int .u16 (s / 65536), .int .u16 (s % 65536), .int .u16 (d / 65536), .int .u16 (d % 65536), .int .u16 a, .int .u16 b] 22)
 have B3 := hide (heap_alloc_new w2 (.cells #[.int .u16 (s / 65536), .int .u16 (s % 65536), .int .u16 (d / 65536), .int .u16 (d % 65536), .int .u16 a, .int .u16 b] 22))
 have A3 := hide (later_keep lB A2.out)
 have L3 := lw.trans (lA.trans lB)
 go_upto_region 3 with fail
 clear kT e1 e2 e3 e4 e5 e6 e7 e8 lw lA lB A2 T2 RW RT
 generalize w2.alloc _ = w3 at *
 generalize w2.heap.size = gb at *
 have ho0 : 0 ≤ s1 / 65536 ∧ s1 / 65536 ≤ 65535 := by omega
 have ho1 : 0 ≤ s1 % 65536 ∧ s1 % 65536 ≤ 65535 := by omega
 have ho2 : 0 ≤ d1 / 65536 ∧ d1 / 65536 ≤ 65535 := by omega
 have ho3 : 0 ≤ d1 % 65536 ∧ d1 % 65536 ≤ 65535 := by omega
 have hn0 : 0 ≤ s / 65536 ∧ s / 65536 ≤ 65535 := by omega
 have hn1 : 0 ≤ s % 65536 ∧ s % 65536 ≤ 65535 := by omega
 have hn2 : 0 ≤ d / 65536 ∧ d / 65536 ≤ 65535 := by omega
 have hn3 : 0 ≤ d % 65536 ∧ d % 65536 ≤ 65535 := by omega
 generalize s1 / 65536 = o0 at *
 generalize s1 % 65536 = o1 at *
 generalize d1 / 65536 = o2 at *
 generalize d1 % 65536 = o3 at *
 generalize s / 65536 = n0 at *
 generalize s % 65536 = n1 at *
 generalize d / 65536 = n2 at *
 generalize d % 65536 = n3 at *
 go_wp2_with fail
 go_loopw [0, 9] (fun cv iv wr => ∃ k : Nat, k ≤ 6 ∧ iv = .int .i64 (k : Int) ∧ cv = .int .u16 (pk [o0, o1, o2, o3, a1, b1] [n0, n1, n2, n3, a, b] c k) ∧ Later w wr ∧ Hid (wr.heap[ga]? = some (.cells #[.int .u16 o0, .int .u16 o1, .int .u16 o2, .int .u16 o3, .int .u16 a1, .int .u16 b1] 22 (0, 0))) ∧ Hid (wr.heap[gb]? = some (.cells #[.int .u16 n0, .int .u16 n1, .int .u16 n2, .int .u16 n3, .int .u16 a, .int .u16 b] 22 (0, 0)))) (fun cv iv _ => 6 - (intOf iv).toNat)
 case atStart => exact ⟨0, by omega, rfl, rfl, L3, A3, B3⟩
 case round =>
  obtain ⟨k, hk, rfl, rfl, lr, hA, hBk⟩ := hrel
  clear L3 A3 B3
  have hk6 : k = 0 ∨ k = 1 ∨ k = 2 ∨ k = 3 ∨ k = 4 ∨ k = 5 ∨ k = 6 := by omega
  clear hk
  rcases hk6 with rfl | rfl | rfl | rfl | rfl | rfl | rfl
  ·-- 0
   have hc := pk_bd [o0, o1, o2, o3, a1, b1] [n0, n1, n2, n3, a, b] c hc0 0
   have HN : Hid (pk [o0, o1, o2, o3, a1, b1] [n0, n1, n2, n3, a, b] c 1 = ptv (pk [o0, o1, o2, o3, a1, b1] [n0, n1, n2, n3, a, b] c 0) ([o0, o1, o2, o3, a1, b1].getD 0 0) ([n0, n1, n2, n3, a, b].getD 0 0)) := rfl
   generalize pk [o0, o1, o2, o3, a1, b1] [n0, n1, n2, n3, a, b] c 0 = ck at *
   go_upto_region 6 with fail
   refine anyT_begin (R := Later) 11 rfl (by kernel_rfl) ?_
   have hdr : Later wr wr.drew := Later.drew wr
   have lr' := lr.trans hdr
   have A1 := (hdr.block ga (Array.getElem?_eq_some_iff.1 hA.out).1).trans hA.out
   have B1 := (hdr.block gb (Array.getElem?_eq_some_iff.1 hBk.out).1).trans hBk.out
   generalize wr.drew = wd at *
   have A1' := hide A1
   have B1' := hide B1
   have qA : ∀ v1, Later wd v1 → ∀ j, v1.cell? ⟨ga, j, none⟩ = #[Value.int .u16 o0, .int .u16 o1, .int .u16 o2, .int .u16 o3, .int .u16 a1, .int .u16 b1][j]? := fun v1 h => block_cell ((h.block ga (Array.getElem?_eq_some_iff.1 A1'.out).1).trans A1'.out)
   have qB : ∀ v1, Later wd v1 → ∀ j, v1.cell? ⟨gb, j, none⟩ = #[Value.int .u16 n0, .int .u16 n1, .int .u16 n2, .int .u16 n3, .int .u16 a, .int .u16 b][j]? := fun v1 h => block_cell ((h.block gb (Array.getElem?_eq_some_iff.1 B1'.out).1).trans B1'.out)
   clear A1 B1
   refine anyT_val Later.pre 0 rfl (by kernel_rfl) (by kernel_rfl) (by kernel_rfl) (fun _ _ _ _ h => h) rfl ?_; apply Exists.intro; refine ⟨fun v1 hv1 => ?_, ?_⟩; (· (go_simp; rfl)); simp only [Act.put, sA, sB, sC]
   refine anyT_val Later.pre 1 rfl (by kernel_rfl) (by kernel_rfl) (by kernel_rfl) (fun _ _ _ _ h => h) rfl ?_; apply Exists.intro; refine ⟨fun v1 hv1 => ?_, ?_⟩; (· (go_simp; rfl)); simp only [Act.put, sA, sB, sC]
   refine anyT_val Later.pre 2 rfl (by kernel_rfl) (by kernel_rfl) (by kernel_rfl) (fun _ _ _ _ h => h) rfl ?_; apply Exists.intro; refine ⟨fun v1 hv1 => ?_, ?_⟩; (· (go_simp; rfl)); simp only [Act.put, sA, sB, sC]
   refine anyT_val Later.pre 3 rfl (by kernel_rfl) (by kernel_rfl) (by kernel_rfl) (fun _ _ _ _ h => h) rfl ?_; apply Exists.intro; refine ⟨fun v1 hv1 => ?_, ?_⟩; (· (go_simp; rfl)); simp only [Act.put, sA, sB, sC]
   refine anyT_val Later.pre 4 rfl (by kernel_rfl) (by kernel_rfl) (by kernel_rfl) (fun _ _ _ _ h => h) rfl ?_; apply Exists.intro; refine ⟨fun v1 hv1 => ?_, ?_⟩; (· (go_simp; rfl)); simp only [Act.put, sA, sB, sC]
   refine anyT_val Later.pre 5 rfl (by kernel_rfl) (by kernel_rfl) (by kernel_rfl) (fun _ _ _ _ h => h) rfl ?_; apply Exists.intro; refine ⟨fun v1 hv1 => ?_, ?_⟩; (· (go_simp; rfl)); simp only [Act.put, sA, sB, sC]
   refine anyT_val Later.pre 6 rfl (by kernel_rfl) (by kernel_rfl) (by kernel_rfl) (fun _ _ _ _ h => h) rfl ?_; apply Exists.intro; refine ⟨fun v1 hv1 => ?_, ?_⟩; (· (go_simp; rfl)); simp only [Act.put, sA, sB, sC]
   refine anyT_val Later.pre 7 rfl (by kernel_rfl) (by kernel_rfl) (by kernel_rfl) (fun _ _ _ _ h => h) rfl ?_; apply Exists.intro; refine ⟨fun v1 hv1 => ?_, ?_⟩; (· (go_simp; rfl)); simp only [Act.put, sA, sB, sC]
   refine anyT_val Later.pre 8 rfl (by kernel_rfl) (by kernel_rfl) (by kernel_rfl) (fun _ _ _ _ h => h) rfl ?_; apply Exists.intro; refine ⟨fun v1 hv1 => ?_, ?_⟩; (· (go_simp; rfl)); simp only [Act.put, sA, sB, sC]
   clear qA qB
   refine anyT_one 9 rfl (by kernel_rfl) rfl ?_
   refine wp_enter 67 #[.int .u16 ck, .int .u16 o0, .int .u16 n0] (by go_simp) ((rpatch_any ck o0 n0 wd hc ho0 hn0).mono ?_)
   rintro e w5 ⟨rfl, rfl⟩
   refine ⟨Below.refl _ _, ?_⟩
   simp only [Act.put, sA, sB, sC]
   refine anyT_val Later.pre 10 rfl (by kernel_rfl) (by kernel_rfl) (by kernel_rfl) (fun _ _ _ _ h => h) rfl ?_; apply Exists.intro; refine ⟨fun v1 hv1 => ?_, ?_⟩; (· (go_simp; rfl)); simp only [Act.put, sA, sB, sC]
   refine anyT_done (by kernel_rfl) ?_
   go_wp2_with fail
   go_roundw
   case rel => exact ⟨1, by omega, by go_num, by rw [HN.out]; rfl, lr', A1', B1'⟩
   case measure => simp [intOf]
  ·-- 1
   have hc := pk_bd [o0, o1, o2, o3, a1, b1] [n0, n1, n2, n3, a, b] c hc0 1
   have HN : Hid (pk [o0, o1, o2, o3, a1, b1] [n0, n1, n2, n3, a, b] c 2 = ptv (pk [o0, o1, o2, o3, a1, b1] [n0, n1, n2, n3, a, b] c 1) ([o0, o1, o2, o3, a1, b1].getD 1 0) ([n0, n1, n2, n3, a, b].getD 1 0)) := rfl
   generalize pk [o0, o1, o2, o3, a1, b1] [n0, n1, n2, n3, a, b] c 1 = ck at *
   go_upto_region 6 with fail
   refine anyT_begin (R := Later) 11 rfl (by kernel_rfl) ?_
   have hdr : Later wr wr.drew := Later.drew wr
   have lr' := lr.trans hdr
   have A1 := (hdr.block ga (Array.getElem?_eq_some_iff.1 hA.out).1).trans hA.out
   have B1 := (hdr.block gb (Array.getElem?_eq_some_iff.1 hBk.out).1).trans hBk.out
   generalize wr.drew = wd at *
   have A1' := hide A1
   have B1' := hide B1
   have qA : ∀ v1, Later wd v1 → ∀ j, v1.cell? ⟨ga, j, none⟩ = #[Value.int .u16 o0, .int .u16 o1, .int .u16 o2, .int .u16 o3, .int .u16 a1, .int .u16 b1][j]? := fun v1 h => block_cell ((h.block ga (Array.getElem?_eq_some_iff.1 A1'.out).1).trans A1'.out)
   have qB : ∀ v1, Later wd v1 → ∀ j, v1.cell? ⟨gb, j, none⟩ = #[Value.int .u16 n0, .int .u16 n1, .int .u16 n2, .int .u16 n3, .int .u16 a, .int .u16 b][j]? := fun v1 h => block_cell ((h.block gb (Array.getElem?_eq_some_iff.1 B1'.out).1).trans B1'.out)
   clear A1 B1
   refine anyT_val Later.pre 0 rfl (by kernel_rfl) (by kernel_rfl) (by kernel_rfl) (fun _ _ _ _ h => h) rfl ?_; apply Exists.intro; refine ⟨fun v1 hv1 => ?_, ?_⟩; (· (go_simp; rfl)); simp only [Act.put, sA, sB, sC]
   refine anyT_val Later.pre 1 rfl (by kernel_rfl) (by kernel_rfl) (by kernel_rfl) (fun _ _ _ _ h => h) rfl ?_; apply Exists.intro; refine ⟨fun v1 hv1 => ?_, ?_⟩; (· (go_simp; rfl)); simp only [Act.put, sA, sB, sC]
   refine anyT_val Later.pre 2 rfl (by kernel_rfl) (by kernel_rfl) (by kernel_rfl) (fun _ _ _ _ h => h) rfl ?_; apply Exists.intro; refine ⟨fun v1 hv1 => ?_, ?_⟩; (· (go_simp; rfl)); simp only [Act.put, sA, sB, sC]
   refine anyT_val Later.pre 3 rfl (by kernel_rfl) (by kernel_rfl) (by kernel_rfl) (fun _ _ _ _ h => h) rfl ?_; apply Exists.intro; refine ⟨fun v1 hv1 => ?_, ?_⟩; (· (go_simp; rfl)); simp only [Act.put, sA, sB, sC]
   refine anyT_val Later.pre 4 rfl (by kernel_rfl) (by kernel_rfl) (by kernel_rfl) (fun _ _ _ _ h => h) rfl ?_; apply Exists.intro; refine ⟨fun v1 hv1 => ?_, ?_⟩; (· (go_simp; rfl)); simp only [Act.put, sA, sB, sC]
   refine anyT_val Later.pre 5 rfl (by kernel_rfl) (by kernel_rfl) (by kernel_rfl) (fun _ _ _ _ h => h) rfl ?_; apply Exists.intro; refine ⟨fun v1 hv1 => ?_, ?_⟩; (· (go_simp; rfl)); simp only [Act.put, sA, sB, sC]
   refine anyT_val Later.pre 6 rfl (by kernel_rfl) (by kernel_rfl) (by kernel_rfl) (fun _ _ _ _ h => h) rfl ?_; apply Exists.intro; refine ⟨fun v1 hv1 => ?_, ?_⟩; (· (go_simp; rfl)); simp only [Act.put, sA, sB, sC]
   refine anyT_val Later.pre 7 rfl (by kernel_rfl) (by kernel_rfl) (by kernel_rfl) (fun _ _ _ _ h => h) rfl ?_; apply Exists.intro; refine ⟨fun v1 hv1 => ?_, ?_⟩; (· (go_simp; rfl)); simp only [Act.put, sA, sB, sC]
   refine anyT_val Later.pre 8 rfl (by kernel_rfl) (by kernel_rfl) (by kernel_rfl) (fun _ _ _ _ h => h) rfl ?_; apply Exists.intro; refine ⟨fun v1 hv1 => ?_, ?_⟩; (· (go_simp; rfl)); simp only [Act.put, sA, sB, sC]
   clear qA qB
   refine anyT_one 9 rfl (by kernel_rfl) rfl ?_
   refine wp_enter 67 #[.int .u16 ck, .int .u16 o1, .int .u16 n1] (by go_simp) ((rpatch_any ck o1 n1 wd hc ho1 hn1).mono ?_)
   rintro e w5 ⟨rfl, rfl⟩
   refine ⟨Below.refl _ _, ?_⟩
   simp only [Act.put, sA, sB, sC]
   refine anyT_val Later.pre 10 rfl (by kernel_rfl) (by kernel_rfl) (by kernel_rfl) (fun _ _ _ _ h => h) rfl ?_; apply Exists.intro; refine ⟨fun v1 hv1 => ?_, ?_⟩; (· (go_simp; rfl)); simp only [Act.put, sA, sB, sC]
   refine anyT_done (by kernel_rfl) ?_
   go_wp2_with fail
   go_roundw
   case rel => exact ⟨2, by omega, by go_num, by rw [HN.out]; rfl, lr', A1', B1'⟩
   case measure => simp [intOf]
  ·-- 2
   have hc := pk_bd [o0, o1, o2, o3, a1, b1] [n0, n1, n2, n3, a, b] c hc0 2
   have HN : Hid (pk [o0, o1, o2, o3, a1, b1] [n0, n1, n2, n3, a, b] c 3 = ptv (pk [o0, o1, o2, o3, a1, b1] [n0, n1, n2, n3, a, b] c 2) ([o0, o1, o2, o3, a1, b1].getD 2 0) ([n0, n1, n2, n3, a, b].getD 2 0)) := rfl
   generalize pk [o0, o1, o2, o3, a1, b1] [n0, n1, n2, n3, a, b] c 2 = ck at *
   go_upto_region 6 with fail
   refine anyT_begin (R := Later) 11 rfl (by kernel_rfl) ?_
   have hdr : Later wr wr.drew := Later.drew wr
   have lr' := lr.trans hdr
   have A1 := (hdr.block ga (Array.getElem?_eq_some_iff.1 hA.out).1).trans hA.out
   have B1 := (hdr.block gb (Array.getElem?_eq_some_iff.1 hBk.out).1).trans hBk.out
   generalize wr.drew = wd at *
   have A1' := hide A1
   have B1' := hide B1
   have qA : ∀ v1, Later wd v1 → ∀ j, v1.cell? ⟨ga, j, none⟩ = #[Value.int .u16 o0, .int .u16 o1, .int .u16 o2, .int .u16 o3, .int .u16 a1, .int .u16 b1][j]? := fun v1 h => block_cell ((h.block ga (Array.getElem?_eq_some_iff.1 A1'.out).1).trans A1'.out)
   have qB : ∀ v1, Later wd v1 → ∀ j, v1.cell? ⟨gb, j, none⟩ = #[Value.int .u16 n0, .int .u16 n1, .int .u16 n2, .int .u16 n3, .int .u16 a, .int .u16 b][j]? := fun v1 h => block_cell ((h.block gb (Array.getElem?_eq_some_iff.1 B1'.out).1).trans B1'.out)
   clear A1 B1
   refine anyT_val Later.pre 0 rfl (by kernel_rfl) (by kernel_rfl) (by kernel_rfl) (fun _ _ _ _ h => h) rfl ?_; apply Exists.intro; refine ⟨fun v1 hv1 => ?_, ?_⟩; (· (go_simp; rfl)); simp only [Act.put, sA, sB, sC]
   refine anyT_val Later.pre 1 rfl (by kernel_rfl) (by kernel_rfl) (by kernel_rfl) (fun _ _ _ _ h => h) rfl ?_; apply Exists.intro; refine ⟨fun v1 hv1 => ?_, ?_⟩; (· (go_simp; rfl)); simp only [Act.put, sA, sB, sC]
   refine anyT_val Later.pre 2 rfl (by kernel_rfl) (by kernel_rfl) (by kernel_rfl) (fun _ _ _ _ h => h) rfl ?_; apply Exists.intro; refine ⟨fun v1 hv1 => ?_, ?_⟩; (· (go_simp; rfl)); simp only [Act.put, sA, sB, sC]
   refine anyT_val Later.pre 3 rfl (by kernel_rfl) (by kernel_rfl) (by kernel_rfl) (fun _ _ _ _ h => h) rfl ?_; apply Exists.intro; refine ⟨fun v1 hv1 => ?_, ?_⟩; (· (go_simp; rfl)); simp only [Act.put, sA, sB, sC]
   refine anyT_val Later.pre 4 rfl (by kernel_rfl) (by kernel_rfl) (by kernel_rfl) (fun _ _ _ _ h => h) rfl ?_; apply Exists.intro; refine ⟨fun v1 hv1 => ?_, ?_⟩; (· (go_simp; rfl)); simp only [Act.put, sA, sB, sC]
   refine anyT_val Later.pre 5 rfl (by kernel_rfl) (by kernel_rfl) (by kernel_rfl) (fun _ _ _ _ h => h) rfl ?_; apply Exists.intro; refine ⟨fun v1 hv1 => ?_, ?_⟩; (· (go_simp; rfl)); simp only [Act.put, sA, sB, sC]
   refine anyT_val Later.pre 6 rfl (by kernel_rfl) (by kernel_rfl) (by kernel_rfl) (fun _ _ _ _ h => h) rfl ?_; apply Exists.intro; refine ⟨fun v1 hv1 => ?_, ?_⟩; (· (go_simp; rfl)); simp only [Act.put, sA, sB, sC]
   refine anyT_val Later.pre 7 rfl (by kernel_rfl) (by kernel_rfl) (by kernel_rfl) (fun _ _ _ _ h => h) rfl ?_; apply Exists.intro; refine ⟨fun v1 hv1 => ?_, ?_⟩; (· (go_simp; rfl)); simp only [Act.put, sA, sB, sC]
   refine anyT_val Later.pre 8 rfl (by kernel_rfl) (by kernel_rfl) (by kernel_rfl) (fun _ _ _ _ h => h) rfl ?_; apply Exists.intro; refine ⟨fun v1 hv1 => ?_, ?_⟩; (· (go_simp; rfl)); simp only [Act.put, sA, sB, sC]
   clear qA qB
   refine anyT_one 9 rfl (by kernel_rfl) rfl ?_
   refine wp_enter 67 #[.int .u16 ck, .int .u16 o2, .int .u16 n2] (by go_simp) ((rpatch_any ck o2 n2 wd hc ho2 hn2).mono ?_)
   rintro e w5 ⟨rfl, rfl⟩
   refine ⟨Below.refl _ _, ?_⟩
   simp only [Act.put, sA, sB, sC]
   refine anyT_val Later.pre 10 rfl (by kernel_rfl) (by kernel_rfl) (by kernel_rfl) (fun _ _ _ _ h => h) rfl ?_; apply Exists.intro; refine ⟨fun v1 hv1 => ?_, ?_⟩; (· (go_simp; rfl)); simp only [Act.put, sA, sB, sC]
   refine anyT_done (by kernel_rfl) ?_
   go_wp2_with fail
   go_roundw
   case rel => exact ⟨3, by omega, by go_num, by rw [HN.out]; rfl, lr', A1', B1'⟩
   case measure => simp [intOf]
  ·-- 3
   have hc := pk_bd [o0, o1, o2, o3, a1, b1] [n0, n1, n2, n3, a, b] c hc0 3
   have HN : Hid (pk [o0, o1, o2, o3, a1, b1] [n0, n1, n2, n3, a, b] c 4 = ptv (pk [o0, o1, o2, o3, a1, b1] [n0, n1, n2, n3, a, b] c 3) ([o0, o1, o2, o3, a1, b1].getD 3 0) ([n0, n1, n2, n3, a, b].getD 3 0)) := rfl
   generalize pk [o0, o1, o2, o3, a1, b1] [n0, n1, n2, n3, a, b] c 3 = ck at *
   go_upto_region 6 with fail
   refine anyT_begin (R := Later) 11 rfl (by kernel_rfl) ?_
   have hdr : Later wr wr.drew := Later.drew wr
   have lr' := lr.trans hdr
   have A1 := (hdr.block ga (Array.getElem?_eq_some_iff.1 hA.out).1).trans hA.out
   have B1 := (hdr.block gb (Array.getElem?_eq_some_iff.1 hBk.out).1).trans hBk.out
   generalize wr.drew = wd at *
   have A1' := hide A1
   have B1' := hide B1
   have qA : ∀ v1, Later wd v1 → ∀ j, v1.cell? ⟨ga, j, none⟩ = #[Value.int .u16 o0, .int .u16 o1, .int .u16 o2, .int .u16 o3, .int .u16 a1, .int .u16 b1][j]? := fun v1 h => block_cell ((h.block ga (Array.getElem?_eq_some_iff.1 A1'.out).1).trans A1'.out)
   have qB : ∀ v1, Later wd v1 → ∀ j, v1.cell? ⟨gb, j, none⟩ = #[Value.int .u16 n0, .int .u16 n1, .int .u16 n2, .int .u16 n3, .int .u16 a, .int .u16 b][j]? := fun v1 h => block_cell ((h.block gb (Array.getElem?_eq_some_iff.1 B1'.out).1).trans B1'.out)
   clear A1 B1
   refine anyT_val Later.pre 0 rfl (by kernel_rfl) (by kernel_rfl) (by kernel_rfl) (fun _ _ _ _ h => h) rfl ?_; apply Exists.intro; refine ⟨fun v1 hv1 => ?_, ?_⟩; (· (go_simp; rfl)); simp only [Act.put, sA, sB, sC]
   refine anyT_val Later.pre 1 rfl (by kernel_rfl) (by kernel_rfl) (by kernel_rfl) (fun _ _ _ _ h => h) rfl ?_; apply Exists.intro; refine ⟨fun v1 hv1 => ?_, ?_⟩; (· (go_simp; rfl)); simp only [Act.put, sA, sB, sC]
   refine anyT_val Later.pre 2 rfl (by kernel_rfl) (by kernel_rfl) (by kernel_rfl) (fun _ _ _ _ h => h) rfl ?_; apply Exists.intro; refine ⟨fun v1 hv1 => ?_, ?_⟩; (· (go_simp; rfl)); simp only [Act.put, sA, sB, sC]
   refine anyT_val Later.pre 3 rfl (by kernel_rfl) (by kernel_rfl) (by kernel_rfl) (fun _ _ _ _ h => h) rfl ?_; apply Exists.intro; refine ⟨fun v1 hv1 => ?_, ?_⟩; (· (go_simp; rfl)); simp only [Act.put, sA, sB, sC]
   refine anyT_val Later.pre 4 rfl (by kernel_rfl) (by kernel_rfl) (by kernel_rfl) (fun _ _ _ _ h => h) rfl ?_; apply Exists.intro; refine ⟨fun v1 hv1 => ?_, ?_⟩; (· (go_simp; rfl)); simp only [Act.put, sA, sB, sC]
   refine anyT_val Later.pre 5 rfl (by kernel_rfl) (by kernel_rfl) (by kernel_rfl) (fun _ _ _ _ h => h) rfl ?_; apply Exists.intro; refine ⟨fun v1 hv1 => ?_, ?_⟩; (· (go_simp; rfl)); simp only [Act.put, sA, sB, sC]
   refine anyT_val Later.pre 6 rfl (by kernel_rfl) (by kernel_rfl) (by kernel_rfl) (fun _ _ _ _ h => h) rfl ?_; apply Exists.intro; refine ⟨fun v1 hv1 => ?_, ?_⟩; (· (go_simp; rfl)); simp only [Act.put, sA, sB, sC]
   refine anyT_val Later.pre 7 rfl (by kernel_rfl) (by kernel_rfl) (by kernel_rfl) (fun _ _ _ _ h => h) rfl ?_; apply Exists.intro; refine ⟨fun v1 hv1 => ?_, ?_⟩; (· (go_simp; rfl)); simp only [Act.put, sA, sB, sC]
   refine anyT_val Later.pre 8 rfl (by kernel_rfl) (by kernel_rfl) (by kernel_rfl) (fun _ _ _ _ h => h) rfl ?_; apply Exists.intro; refine ⟨fun v1 hv1 => ?_, ?_⟩; (· (go_simp; rfl)); simp only [Act.put, sA, sB, sC]
   clear qA qB
   refine anyT_one 9 rfl (by kernel_rfl) rfl ?_
   refine wp_enter 67 #[.int .u16 ck, .int .u16 o3, .int .u16 n3] (by go_simp) ((rpatch_any ck o3 n3 wd hc ho3 hn3).mono ?_)
   rintro e w5 ⟨rfl, rfl⟩
   refine ⟨Below.refl _ _, ?_⟩
   simp only [Act.put, sA, sB, sC]
   refine anyT_val Later.pre 10 rfl (by kernel_rfl) (by kernel_rfl) (by kernel_rfl) (fun _ _ _ _ h => h) rfl ?_; apply Exists.intro; refine ⟨fun v1 hv1 => ?_, ?_⟩; (· (go_simp; rfl)); simp only [Act.put, sA, sB, sC]
   refine anyT_done (by kernel_rfl) ?_
   go_wp2_with fail
   go_roundw
   case rel => exact ⟨4, by omega, by go_num, by rw [HN.out]; rfl, lr', A1', B1'⟩
   case measure => simp [intOf]
  ·-- 4
   have hc := pk_bd [o0, o1, o2, o3, a1, b1] [n0, n1, n2, n3, a, b] c hc0 4
   have HN : Hid (pk [o0, o1, o2, o3, a1, b1] [n0, n1, n2, n3, a, b] c 5 = ptv (pk [o0, o1, o2, o3, a1, b1] [n0, n1, n2, n3, a, b] c 4) ([o0, o1, o2, o3, a1, b1].getD 4 0) ([n0, n1, n2, n3, a, b].getD 4 0)) := rfl
   generalize pk [o0, o1, o2, o3, a1, b1] [n0, n1, n2, n3, a, b] c 4 = ck at *
   go_upto_region 6 with fail
   refine anyT_begin (R := Later) 11 rfl (by kernel_rfl) ?_
   have hdr : Later wr wr.drew := Later.drew wr
   have lr' := lr.trans hdr
   have A1 := (hdr.block ga (Array.getElem?_eq_some_iff.1 hA.out).1).trans hA.out
   have B1 := (hdr.block gb (Array.getElem?_eq_some_iff.1 hBk.out).1).trans hBk.out
   generalize wr.drew = wd at *
   have A1' := hide A1
   have B1' := hide B1
   have qA : ∀ v1, Later wd v1 → ∀ j, v1.cell? ⟨ga, j, none⟩ = #[Value.int .u16 o0, .int .u16 o1, .int .u16 o2, .int .u16 o3, .int .u16 a1, .int .u16 b1][j]? := fun v1 h => block_cell ((h.block ga (Array.getElem?_eq_some_iff.1 A1'.out).1).trans A1'.out)
   have qB : ∀ v1, Later wd v1 → ∀ j, v1.cell? ⟨gb, j, none⟩ = #[Value.int .u16 n0, .int .u16 n1, .int .u16 n2, .int .u16 n3, .int .u16 a, .int .u16 b][j]? := fun v1 h => block_cell ((h.block gb (Array.getElem?_eq_some_iff.1 B1'.out).1).trans B1'.out)
   clear A1 B1
   refine anyT_val Later.pre 0 rfl (by kernel_rfl) (by kernel_rfl) (by kernel_rfl) (fun _ _ _ _ h => h) rfl ?_; apply Exists.intro; refine ⟨fun v1 hv1 => ?_, ?_⟩; (· (go_simp; rfl)); simp only [Act.put, sA, sB, sC]
   refine anyT_val Later.pre 1 rfl (by kernel_rfl) (by kernel_rfl) (by kernel_rfl) (fun _ _ _ _ h => h) rfl ?_; apply Exists.intro; refine ⟨fun v1 hv1 => ?_, ?_⟩; (· (go_simp; rfl)); simp only [Act.put, sA, sB, sC]
   refine anyT_val Later.pre 2 rfl (by kernel_rfl) (by kernel_rfl) (by kernel_rfl) (fun _ _ _ _ h => h) rfl ?_; apply Exists.intro; refine ⟨fun v1 hv1 => ?_, ?_⟩; (· (go_simp; rfl)); simp only [Act.put, sA, sB, sC]
   refine anyT_val Later.pre 3 rfl (by kernel_rfl) (by kernel_rfl) (by kernel_rfl) (fun _ _ _ _ h => h) rfl ?_; apply Exists.intro; refine ⟨fun v1 hv1 => ?_, ?_⟩; (· (go_simp; rfl)); simp only [Act.put, sA, sB, sC]
   refine anyT_val Later.pre 4 rfl (by kernel_rfl) (by kernel_rfl) (by kernel_rfl) (fun _ _ _ _ h => h) rfl ?_; apply Exists.intro; refine ⟨fun v1 hv1 => ?_, ?_⟩; (· (go_simp; rfl)); simp only [Act.put, sA, sB, sC]
   refine anyT_val Later.pre 5 rfl (by kernel_rfl) (by kernel_rfl) (by kernel_rfl) (fun _ _ _ _ h => h) rfl ?_; apply Exists.intro; refine ⟨fun v1 hv1 => ?_, ?_⟩; (· (go_simp; rfl)); simp only [Act.put, sA, sB, sC]
   refine anyT_val Later.pre 6 rfl (by kernel_rfl) (by kernel_rfl) (by kernel_rfl) (fun _ _ _ _ h => h) rfl ?_; apply Exists.intro; refine ⟨fun v1 hv1 => ?_, ?_⟩; (· (go_simp; rfl)); simp only [Act.put, sA, sB, sC]
   refine anyT_val Later.pre 7 rfl (by kernel_rfl) (by kernel_rfl) (by kernel_rfl) (fun _ _ _ _ h => h) rfl ?_; apply Exists.intro; refine ⟨fun v1 hv1 => ?_, ?_⟩; (· (go_simp; rfl)); simp only [Act.put, sA, sB, sC]
   refine anyT_val Later.pre 8 rfl (by kernel_rfl) (by kernel_rfl) (by kernel_rfl) (fun _ _ _ _ h => h) rfl ?_; apply Exists.intro; refine ⟨fun v1 hv1 => ?_, ?_⟩; (· (go_simp; rfl)); simp only [Act.put, sA, sB, sC]
   clear qA qB
   refine anyT_one 9 rfl (by kernel_rfl) rfl ?_
   refine wp_enter 67 #[.int .u16 ck, .int .u16 a1, .int .u16 a] (by go_simp) ((rpatch_any ck a1 a wd hc ha1 ha).mono ?_)
   rintro e w5 ⟨rfl, rfl⟩
   refine ⟨Below.refl _ _, ?_⟩
   simp only [Act.put, sA, sB, sC]
   refine anyT_val Later.pre 10 rfl (by kernel_rfl) (by kernel_rfl) (by kernel_rfl) (fun _ _ _ _ h => h) rfl ?_; apply Exists.intro; refine ⟨fun v1 hv1 => ?_, ?_⟩; (· (go_simp; rfl)); simp only [Act.put, sA, sB, sC]
   refine anyT_done (by kernel_rfl) ?_
   go_wp2_with fail
   go_roundw
   case rel => exact ⟨5, by omega, by go_num, by rw [HN.out]; rfl, lr', A1', B1'⟩
   case measure => simp [intOf]
  ·-- 5
   have hc := pk_bd [o0, o1, o2, o3, a1, b1] [n0, n1, n2, n3, a, b] c hc0 5
   have HN : Hid (pk [o0, o1, o2, o3, a1, b1] [n0, n1, n2, n3, a, b] c 6 = ptv (pk [o0, o1, o2, o3, a1, b1] [n0, n1, n2, n3, a, b] c 5) ([o0, o1, o2, o3, a1, b1].getD 5 0) ([n0, n1, n2, n3, a, b].getD 5 0)) := rfl
   generalize pk [o0, o1, o2, o3, a1, b1] [n0, n1, n2, n3, a, b] c 5 = ck at *
   go_upto_region 6 with fail
   refine anyT_begin (R := Later) 11 rfl (by kernel_rfl) ?_
   have hdr : Later wr wr.drew := Later.drew wr
   have lr' := lr.trans hdr
   have A1 := (hdr.block ga (Array.getElem?_eq_some_iff.1 hA.out).1).trans hA.out
   have B1 := (hdr.block gb (Array.getElem?_eq_some_iff.1 hBk.out).1).trans hBk.out
   generalize wr.drew = wd at *
   have A1' := hide A1
   have B1' := hide B1
   have qA : ∀ v1, Later wd v1 → ∀ j, v1.cell? ⟨ga, j, none⟩ = #[Value.int .u16 o0, .int .u16 o1, .int .u16 o2, .int .u16 o3, .int .u16 a1, .int .u16 b1][j]? := fun v1 h => block_cell ((h.block ga (Array.getElem?_eq_some_iff.1 A1'.out).1).trans A1'.out)
   have qB : ∀ v1, Later wd v1 → ∀ j, v1.cell? ⟨gb, j, none⟩ = #[Value.int .u16 n0, .int .u16 n1, .int .u16 n2, .int .u16 n3, .int .u16 a, .int .u16 b][j]? := fun v1 h => block_cell ((h.block gb (Array.getElem?_eq_some_iff.1 B1'.out).1).trans B1'.out)
   clear A1 B1
   refine anyT_val Later.pre 0 rfl (by kernel_rfl) (by kernel_rfl) (by kernel_rfl) (fun _ _ _ _ h => h) rfl ?_; apply Exists.intro; refine ⟨fun v1 hv1 => ?_, ?_⟩; (· (go_simp; rfl)); simp only [Act.put, sA, sB, sC]
   refine anyT_val Later.pre 1 rfl (by kernel_rfl) (by kernel_rfl) (by kernel_rfl) (fun _ _ _ _ h => h) rfl ?_; apply Exists.intro; refine ⟨fun v1 hv1 => ?_, ?_⟩; (· (go_simp; rfl)); simp only [Act.put, sA, sB, sC]
   refine anyT_val Later.pre 2 rfl (by kernel_rfl) (by kernel_rfl) (by kernel_rfl) (fun _ _ _ _ h => h) rfl ?_; apply Exists.intro; refine ⟨fun v1 hv1 => ?_, ?_⟩; (· (go_simp; rfl)); simp only [Act.put, sA, sB, sC]
   refine anyT_val Later.pre 3 rfl (by kernel_rfl) (by kernel_rfl) (by kernel_rfl) (fun _ _ _ _ h => h) rfl ?_; apply Exists.intro; refine ⟨fun v1 hv1 => ?_, ?_⟩; (· (go_simp; rfl)); simp only [Act.put, sA, sB, sC]
   refine anyT_val Later.pre 4 rfl (by kernel_rfl) (by kernel_rfl) (by kernel_rfl) (fun _ _ _ _ h => h) rfl ?_; apply Exists.intro; refine ⟨fun v1 hv1 => ?_, ?_⟩; (· (go_simp; rfl)); simp only [Act.put, sA, sB, sC]
   refine anyT_val Later.pre 5 rfl (by kernel_rfl) (by kernel_rfl) (by kernel_rfl) (fun _ _ _ _ h => h) rfl ?_; apply Exists.intro; refine ⟨fun v1 hv1 => ?_, ?_⟩; (· (go_simp; rfl)); simp only [Act.put, sA, sB, sC]
   refine anyT_val Later.pre 6 rfl (by kernel_rfl) (by kernel_rfl) (by kernel_rfl) (fun _ _ _ _ h => h) rfl ?_; apply Exists.intro; refine ⟨fun v1 hv1 => ?_, ?_⟩; (· (go_simp; rfl)); simp only [Act.put, sA, sB, sC]
   refine anyT_val Later.pre 7 rfl (by kernel_rfl) (by kernel_rfl) (by kernel_rfl) (fun _ _ _ _ h => h) rfl ?_; apply Exists.intro; refine ⟨fun v1 hv1 => ?_, ?_⟩; (· (go_simp; rfl)); simp only [Act.put, sA, sB, sC]
   refine anyT_val Later.pre 8 rfl (by kernel_rfl) (by kernel_rfl) (by kernel_rfl) (fun _ _ _ _ h => h) rfl ?_; apply Exists.intro; refine ⟨fun v1 hv1 => ?_, ?_⟩; (· (go_simp; rfl)); simp only [Act.put, sA, sB, sC]
   clear qA qB
   refine anyT_one 9 rfl (by kernel_rfl) rfl ?_
   refine wp_enter 67 #[.int .u16 ck, .int .u16 b1, .int .u16 b] (by go_simp) ((rpatch_any ck b1 b wd hc hb1 hb).mono ?_)
   rintro e w5 ⟨rfl, rfl⟩
   refine ⟨Below.refl _ _, ?_⟩
   simp only [Act.put, sA, sB, sC]
   refine anyT_val Later.pre 10 rfl (by kernel_rfl) (by kernel_rfl) (by kernel_rfl) (fun _ _ _ _ h => h) rfl ?_; apply Exists.intro; refine ⟨fun v1 hv1 => ?_, ?_⟩; (· (go_simp; rfl)); simp only [Act.put, sA, sB, sC]
   refine anyT_done (by kernel_rfl) ?_
   go_wp2_with fail
   go_roundw
   case rel => exact ⟨6, by omega, by go_num, by rw [HN.out]; rfl, lr', A1', B1'⟩
   case measure => simp [intOf]
  ·-- 6
   go_wp2_with fail
   go_ret
   exact ⟨by rw [HP.out]; rfl, lr⟩
end Go.Proofs.YtghpakfjpdifaaaGreatDoor

/- The document's read of bytes. -/
namespace Go.Proofs.YtghpakfjpdifaaaGreatDoor
open Go.RowKit Go.Shelf
set_option maxRecDepth 100000
set_option linter.unusedVariables false
set_option linter.unusedSimpArgs false

theorem rget16_rd {n₀ : Nat} (sv : Value) (zs : List Int) (hB : Mt.By zs) (p : Nat) (h : p + 1 < zs.length) (hl : zs.length ≤ 140737488355328) (w : World) (hI : Rd n₀ w sv zs) :
  Calls Tryz.prog 62 #[sv, .int .i64 p] w fun e w' => e = .returned (.int .u16 (wat zs p)) ∧ Later w w' := by
 refine (rget16_at sv zs hB p (by omega) hl w hI).mono ?_
 rintro e w' ⟨rfl, q, rfl⟩
 refine ⟨?_, below_draw (Later.refl w) q⟩
 unfold getAt2
 rw [if_pos (by omega), Int.toNat_natCast]
theorem rget32_rd {n₀ : Nat} (sv : Value) (zs : List Int) (hB : Mt.By zs) (p : Nat) (h : p + 3 < zs.length) (hl : zs.length ≤ 140737488355328) (w : World) (hI : Rd n₀ w sv zs) :
  Calls Tryz.prog 36 #[sv, .int .i64 p] w fun e w' => e = .returned (.int .u32 (wat4 zs p)) ∧ Later w w' := by
 refine (rget32_at sv zs hB p (by omega) hl w hI).mono ?_
 rintro e w' ⟨rfl, q, rfl⟩
 refine ⟨?_, below_draw (Later.refl w) q⟩
 unfold getAt4
 rw [if_pos (by omega), Int.toNat_natCast]

theorem res_rread (tm : Array Value) (pb : Nat) (c : Int) (v0 v1 v2 v3 v4 v5 v6 v7 v8 : Value) (w : World) (h4 : tm[4]? = some (.pointer (some ⟨pb, 0, none⟩))) (h5 : tm[5]? = some (.int .i64 c))
  (hp : w.heap[pb]? = some (.cells #[v0, v1, v2, v3, v4, v5, v6, v7, v8] 26 (0, 0))) :
  (results Tryz.f37 tm).run Tryz.prog w = .ok (.tuple #[.agg #[v0, v1, v2, v3, v4, v5, v6, v7, v8], .int .i64 c]) w := by
 have kP := block_cell hp
 simp [results, Tryz.results37, go_sem, h4, h5, kP]

theorem rexit {R : Ending → World → Prop} (tm : Array Value) (pb : Nat) (c : Int) (V : World) (h4 : tm[4]? = some (.pointer (some ⟨pb, 0, none⟩))) (h5 : tm[5]? = some (.int .i64 c)) (hV : V.heap[pb]? = some (.cells zc.toArray 26 (0, 0)))
  (hR : R (.returned (.tuple #[.agg zc.toArray, .int .i64 c])) V) : bodyPost Tryz.prog Tryz.f37 R .ret { tmps := tm, defers := [] } V :=
 bodyPost_ret (res_rread tm pb c _ _ _ _ _ _ _ _ _ V h4 h5 hV) rfl hR

set_option maxHeartbeats 8000000 in
theorem rread_any (q : Bool) (sv : Value) (zs : List Int) (w : World) (hB : Mt.By zs) (hl : zs.length ≤ 140737488355328) (hI : Rd w.heap.size w sv zs) :
  Calls Tryz.prog 37 #[sv, .bool q] w fun e w' => Below w.heap.size w w' ∧
   ((rde q zs ≠ 0 ∧ e = .returned (.tuple #[.agg zc.toArray, .int .i64 (rde q zs)])) ∨
    (rde q zs = 0 ∧ ∃ so sd, e = .returned (.tuple #[pkt zs so sd, .int .i64 0]) ∧ Ow w.heap.size w' so ((zs.take (hl4 zs).toNat).drop 20) ∧ Ow w.heap.size w' sd ((zs.take (ral q zs).toNat).drop (hl4 zs).toNat))) := by
 obtain ⟨i0, hi, hz0, hz1, hz2⟩ := info_parts info_u8
 obtain ⟨a, cap, rfl, hl1, hm1⟩ := hI.slice
 have hb1 : Below w.heap.size w (w.alloc (.cells zc.toArray 26)) := (Below.refl _ _).alloc (Nat.le_refl _) _
 have p1 := heap_alloc_new w (.cells zc.toArray 26)
 have s1 : (w.alloc (.cells zc.toArray 26)).heap.size = w.heap.size + 1 := by simp
 have HM : Hid (rde q zs = if msr zs ≠ 0 then msr zs else if (zs.length : Int) < ral q zs then 3 else if chk zs ≠ 0 then chk zs else if q = true ∧ ral q zs - hl4 zs < 8 then 3 else 0) := rfl
 go_enter Tryz.func37, Tryz.ntmps37
 by_cases h1 : zs.length < 20
 ·have t1 : (zs.length : Int) < 20 := by omega
  have HR : Hid (rde q zs = 3) := by show _ = _; unfold rde; rw [show msr zs = 3 from by unfold msr; rw [if_pos h1]]; rfl
  have P2 := block_cell p1
  have F2 := block_frozen p1
  go_wp2_with fail
  exact rexit _ w.heap.size 3 _ rfl rfl p1 ⟨hb1, .inl (by rw [HR.out]; exact ⟨by omega, rfl⟩)⟩

 have t1 : ¬ (zs.length : Int) < 20 := by omega
 obtain ⟨b, off, cap', e', _, _, hb, hc⟩ := hI.cells (by omega)
 cases e'
 have d0 : (w.alloc (.cells zc.toArray 26)).cell? ⟨b, off, none⟩ = some (.int .u8 (zs[0]?.getD 0)) := (hb1.cell (p := ⟨b, off, none⟩) hb).trans (by have := hc 0 (by omega); rwa [Nat.add_zero] at this)
 have b0 := hB.at 0
 have hlz : (0 : Int) < zs.length := by omega
 by_cases h2 : zs[0]?.getD 0 / 16 ≠ 4
 ·have t2 : (zs[0]?.getD 0 / 16 != 4) = true := by simpa using h2
  have HR : Hid (rde q zs = 6) := by show _ = _; unfold rde; rw [show msr zs = 6 from by unfold msr; rw [if_neg h1, if_pos h2]]; rfl
  have P2 := block_cell p1
  have F2 := block_frozen p1
  go_wp2_with fail
  exact rexit _ w.heap.size 6 _ rfl rfl p1 ⟨hb1, .inl (by rw [HR.out]; exact ⟨by omega, rfl⟩)⟩

 have t2 : (zs[0]?.getD 0 / 16 != 4) = false := by simpa using h2
 have HH : hl4 zs = zs[0]?.getD 0 % 16 * 4 := rfl
 have hh := hl4_bd hB
 by_cases h3 : hl4 zs < 20
 ·have t3 : zs[0]?.getD 0 % 16 * 4 < 20 := by rw [← HH]; exact h3
  have HR : Hid (rde q zs = 4) := by show _ = _; unfold rde; rw [show msr zs = 4 from by unfold msr; rw [if_neg h1, if_neg h2, if_pos h3]]; rfl
  have P2 := block_cell p1
  have F2 := block_frozen p1
  go_wp2_with fail
  exact rexit _ w.heap.size 4 _ rfl rfl p1 ⟨hb1, .inl (by rw [HR.out]; exact ⟨by omega, rfl⟩)⟩

 have t3 : ¬ zs[0]?.getD 0 % 16 * 4 < 20 := by rw [← HH]; exact h3
 by_cases h4 : (zs.length : Int) < hl4 zs
 ·have t4 : (zs.length : Int) < zs[0]?.getD 0 % 16 * 4 := by rw [← HH]; exact h4
  have HR : Hid (rde q zs = 3) := by show _ = _; unfold rde; rw [show msr zs = 3 from by unfold msr; rw [if_neg h1, if_neg h2, if_neg h3, if_pos h4]]; rfl
  have P2 := block_cell p1
  have F2 := block_frozen p1
  go_wp2_with fail
  exact rexit _ w.heap.size 3 _ rfl rfl p1 ⟨hb1, .inl (by rw [HR.out]; exact ⟨by omega, rfl⟩)⟩

 have t4 : ¬ (zs.length : Int) < zs[0]?.getD 0 % 16 * 4 := by rw [← HH]; exact h4
 go_wp2_with fail
 clear d0
 refine (rget16_rd _ zs hB 2 (by omega) hl _ ((hI.below hb1).mono (Nat.le_succ _))).mono ?_
 rintro e w2 ⟨rfl, hl2⟩
 obtain ⟨k, hk⟩ := Int.eq_ofNat_of_zero_le (show 0 ≤ zs[0]?.getD 0 % 16 * 4 by omega)
 have HK : Hid (hl4 zs = (k : Int)) := by show _ = _; rw [HH]; exact hk
 rw [hk] at t3 t4 ⊢
 have hkl : 20 ≤ k ∧ k ≤ zs.length := by omega
 have hkc : k ≤ cap := by omega
 have hn2 := wat_bd hB 2
 have z2 := hl2.size
 have HM2 : ∀ x, msr zs = x → Hid (msr zs = x) := fun _ h => h
 by_cases h5 : wat zs 2 < hl4 zs
 ·have t5 : wat zs 2 < (k : Int) := by omega
  have HR : Hid (rde q zs = 4) := by show _ = _; unfold rde; rw [show msr zs = 4 from by unfold msr; rw [if_neg h1, if_neg h2, if_neg (by omega), if_neg (by omega), if_pos h5]]; rfl
  have pk := ((hl2).block w.heap.size (by omega)).trans p1
  have Pk := block_cell pk
  have Fk := block_frozen pk
  go_wp2_with fail
  clear Pk Fk
  generalize hV : ((((((((w2.setCell ⟨w.heap.size, 0, none⟩ _).setCell ⟨w.heap.size, 1, none⟩ _).setCell ⟨w.heap.size, 2, none⟩ _).setCell ⟨w.heap.size, 3, none⟩ _).setCell ⟨w.heap.size, 4, none⟩ _).setCell ⟨w.heap.size, 5, none⟩ _).setCell ⟨w.heap.size, 6, none⟩ _).setCell ⟨w.heap.size, 7, none⟩ _).setCell ⟨w.heap.size, 8, none⟩ _ = V
  have hV9 : V = putRow w2 w.heap.size 0 zc := hV.symm
  have hb8 : But (fun b => b = w.heap.size) w2 V := by rw [hV9]; exact putRow_but (E := fun b => b = w.heap.size) (n := w.heap.size) rfl _ _ _ _ (But.refl _ _)
  have p8 := putRow_all zc pk rfl
  rw [← hV9] at p8
  exact rexit _ w.heap.size 4 _ rfl rfl p8 ⟨(hb1.trans ((hl2).mono (by omega))).trans (hb8.below (Nat.le_trans (by omega) (hl2).size) (fun j h e => by omega)), .inl (by rw [HR.out]; exact ⟨by omega, rfl⟩)⟩

 have t5 : ¬ wat zs 2 < (k : Int) := by omega
 have hm0 : Hid (msr zs = 0) := by show _ = _; unfold msr; rw [if_neg h1, if_neg h2, if_neg (by omega), if_neg (by omega), if_neg (by omega)]
 cases q
 ·by_cases h6 : (zs.length : Int) < wat zs 2
  ·have HR : Hid (rde false zs = 3) := by show _ = _; unfold rde; rw [hm0.out, if_neg (by simp), if_pos (by simpa [ral] using h6)]
   have pk := ((hl2).block w.heap.size (by omega)).trans p1
   have Pk := block_cell pk
   have Fk := block_frozen pk
   go_wp2_with fail
   clear Pk Fk
   generalize hV : ((((((((w2.setCell ⟨w.heap.size, 0, none⟩ _).setCell ⟨w.heap.size, 1, none⟩ _).setCell ⟨w.heap.size, 2, none⟩ _).setCell ⟨w.heap.size, 3, none⟩ _).setCell ⟨w.heap.size, 4, none⟩ _).setCell ⟨w.heap.size, 5, none⟩ _).setCell ⟨w.heap.size, 6, none⟩ _).setCell ⟨w.heap.size, 7, none⟩ _).setCell ⟨w.heap.size, 8, none⟩ _ = V
   have hV9 : V = putRow w2 w.heap.size 0 zc := hV.symm
   have hb8 : But (fun b => b = w.heap.size) w2 V := by rw [hV9]; exact putRow_but (E := fun b => b = w.heap.size) (n := w.heap.size) rfl _ _ _ _ (But.refl _ _)
   have p8 := putRow_all zc pk rfl
   rw [← hV9] at p8
   exact rexit _ w.heap.size 3 _ rfl rfl p8 ⟨(hb1.trans ((hl2).mono (by omega))).trans (hb8.below (Nat.le_trans (by omega) (hl2).size) (fun j h e => by omega)), .inl (by rw [HR.out]; exact ⟨by omega, rfl⟩)⟩

  go_wp2_with fail
  refine (rgood_any _ (zs.take k) (hB.take _) (by simp; omega) w2 (((hI.take k (by omega)).below (hb1.trans (hl2.mono (by omega)))).mono (by omega))).mono ?_
  rintro e w3 ⟨rfl, hl3⟩
  have hL3 : Later _ w3 := hl2.trans hl3
  have z3 := hL3.size
  cases hg : (Mt.cks (zs.take k) == 0)
  ·have hc5 : chk zs = 5 := by unfold chk; rw [HK.out, Int.toNat_natCast, if_pos (by simpa using hg)]
   have HR : Hid (rde false zs = 5) := by show _ = _; unfold rde; rw [hm0.out, if_neg (by simp), if_neg (by simp [ral]; omega), hc5]; rfl
   clear hc5
   have pk := ((hL3).block w.heap.size (by omega)).trans p1
   have Pk := block_cell pk
   have Fk := block_frozen pk
   go_wp2_with fail
   clear Pk Fk
   generalize hV : ((((((((w3.setCell ⟨w.heap.size, 0, none⟩ _).setCell ⟨w.heap.size, 1, none⟩ _).setCell ⟨w.heap.size, 2, none⟩ _).setCell ⟨w.heap.size, 3, none⟩ _).setCell ⟨w.heap.size, 4, none⟩ _).setCell ⟨w.heap.size, 5, none⟩ _).setCell ⟨w.heap.size, 6, none⟩ _).setCell ⟨w.heap.size, 7, none⟩ _).setCell ⟨w.heap.size, 8, none⟩ _ = V
   have hV9 : V = putRow w3 w.heap.size 0 zc := hV.symm
   have hb8 : But (fun b => b = w.heap.size) w3 V := by rw [hV9]; exact putRow_but (E := fun b => b = w.heap.size) (n := w.heap.size) rfl _ _ _ _ (But.refl _ _)
   have p8 := putRow_all zc pk rfl
   rw [← hV9] at p8
   exact rexit _ w.heap.size 5 _ rfl rfl p8 ⟨(hb1.trans ((hL3).mono (by omega))).trans (hb8.below (Nat.le_trans (by omega) (hL3).size) (fun j h e => by omega)), .inl (by rw [HR.out]; exact ⟨by omega, rfl⟩)⟩

  have hg0 : Mt.cks (zs.take k) = 0 := by simpa using hg
  have Hg := hide hg0
  clear hg hg0
  go_wp2_with fail
  refine (rget16_rd _ zs hB 6 (by omega) hl w3 (hI.below (hb1.trans (hL3.mono (by omega))))).mono ?_
  rintro e w4 ⟨rfl, hl4'⟩
  have hL4 : Later _ w4 := hL3.trans hl4'
  have z4 := hL4.size
  have hff := wat_bd hB 6
  by_cases h7 : wat zs 6 % 16384 ≠ 0
  ·have t7 : (wat zs 6 % 16384 != 0) = true := by simpa using h7
   have hc5 : chk zs = 7 := by unfold chk; rw [HK.out, Int.toNat_natCast, if_neg (by simp [Hg.out]), if_pos h7]
   have HR : Hid (rde false zs = 7) := by show _ = _; unfold rde; rw [hm0.out, if_neg (by simp), if_neg (by simp [ral]; omega), hc5]; rfl
   clear hc5
   have pk := ((hL4).block w.heap.size (by omega)).trans p1
   have Pk := block_cell pk
   have Fk := block_frozen pk
   go_wp2_with fail
   clear Pk Fk
   generalize hV : ((((((((w4.setCell ⟨w.heap.size, 0, none⟩ _).setCell ⟨w.heap.size, 1, none⟩ _).setCell ⟨w.heap.size, 2, none⟩ _).setCell ⟨w.heap.size, 3, none⟩ _).setCell ⟨w.heap.size, 4, none⟩ _).setCell ⟨w.heap.size, 5, none⟩ _).setCell ⟨w.heap.size, 6, none⟩ _).setCell ⟨w.heap.size, 7, none⟩ _).setCell ⟨w.heap.size, 8, none⟩ _ = V
   have hV9 : V = putRow w4 w.heap.size 0 zc := hV.symm
   have hb8 : But (fun b => b = w.heap.size) w4 V := by rw [hV9]; exact putRow_but (E := fun b => b = w.heap.size) (n := w.heap.size) rfl _ _ _ _ (But.refl _ _)
   have p8 := putRow_all zc pk rfl
   rw [← hV9] at p8
   exact rexit _ w.heap.size 7 _ rfl rfl p8 ⟨(hb1.trans ((hL4).mono (by omega))).trans (hb8.below (Nat.le_trans (by omega) (hL4).size) (fun j h e => by omega)), .inl (by rw [HR.out]; exact ⟨by omega, rfl⟩)⟩

  have t7 : (wat zs 6 % 16384 != 0) = false := by simpa using h7
  by_cases h8 : 32768 ≤ wat zs 6
  ·have hc5 : chk zs = 4 := by unfold chk; rw [HK.out, Int.toNat_natCast, if_neg (by simp [Hg.out]), if_neg h7, if_pos h8]
   have HR : Hid (rde false zs = 4) := by show _ = _; unfold rde; rw [hm0.out, if_neg (by simp), if_neg (by simp [ral]; omega), hc5]; rfl
   clear hc5
   have pk := ((hL4).block w.heap.size (by omega)).trans p1
   have Pk := block_cell pk
   have Fk := block_frozen pk
   go_wp2_with fail
   clear Pk Fk
   generalize hV : ((((((((w4.setCell ⟨w.heap.size, 0, none⟩ _).setCell ⟨w.heap.size, 1, none⟩ _).setCell ⟨w.heap.size, 2, none⟩ _).setCell ⟨w.heap.size, 3, none⟩ _).setCell ⟨w.heap.size, 4, none⟩ _).setCell ⟨w.heap.size, 5, none⟩ _).setCell ⟨w.heap.size, 6, none⟩ _).setCell ⟨w.heap.size, 7, none⟩ _).setCell ⟨w.heap.size, 8, none⟩ _ = V
   have hV9 : V = putRow w4 w.heap.size 0 zc := hV.symm
   have hb8 : But (fun b => b = w.heap.size) w4 V := by rw [hV9]; exact putRow_but (E := fun b => b = w.heap.size) (n := w.heap.size) rfl _ _ _ _ (But.refl _ _)
   have p8 := putRow_all zc pk rfl
   rw [← hV9] at p8
   exact rexit _ w.heap.size 4 _ rfl rfl p8 ⟨(hb1.trans ((hL4).mono (by omega))).trans (hb8.below (Nat.le_trans (by omega) (hL4).size) (fun j h e => by omega)), .inl (by rw [HR.out]; exact ⟨by omega, rfl⟩)⟩

  have hc0 : Hid (chk zs = 0) := by show _ = _; unfold chk; rw [HK.out, Int.toNat_natCast, if_neg (by simp [Hg.out]), if_neg h7, if_neg h8]

  have HR : Hid (rde false zs = 0) := by show _ = _; unfold rde; rw [hm0.out, if_neg (by simp), if_neg (by simp [ral]; omega), hc0.out, if_neg (by simp), if_neg (by simp)]

  go_wp2_with fail
  obtain ⟨n, hn⟩ := Int.eq_ofNat_of_zero_le (show 0 ≤ wat zs 2 by omega)
  have hkn : 20 ≤ k ∧ k ≤ n ∧ n ≤ zs.length := by omega
  have HN : Hid (ral false zs = n) := by show _ = _; simp [ral]; omega
  have Hn := hide hn
  rw [hn]
  clear hn

  have d1 := hc 1 (by omega)
  have d8 := hc 8 (by omega)
  have d9 := hc 9 (by omega)
  have hbw4 := hb1.trans (hL4.mono (by omega))
  generalize gz1 : zs[1]?.getD 0 = z1 at *
  generalize gz8 : zs[8]?.getD 0 = z8 at *
  generalize gz9 : zs[9]?.getD 0 = z9 at *
  have G1 := hide gz1
  have G8 := hide gz8
  have G9 := hide gz9
  clear gz1 gz8 gz9
  have i1 : (1 : Int) < zs.length := by omega
  have i8 : (8 : Int) < zs.length := by omega
  have i9 : (9 : Int) < zs.length := by omega
  refine anyR_begin (R := KI w4.heap.size 26 9 (List.toArray [.int .u8 z1, .int .u16 (wat zs 4), .bool (decide (16384 ≤ wat zs 6)), .int .u8 z8, .int .u8 z9, .int .u32 (wat4 zs 12), .int .u32 (wat4 zs 16), .slice none 0 0, .slice none 0 0])) (KI.pre _ _ _ _) (fun w => KI.of (Later.drew w)) 20 rfl (by kernel_rfl) (fun W5 hW5 => ?_)
  have hbel : ∀ w1, KI w4.heap.size 26 9 (List.toArray [.int .u8 z1, .int .u16 (wat zs 4), .bool (decide (16384 ≤ wat zs 6)), .int .u8 z8, .int .u8 z9, .int .u32 (wat4 zs 12), .int .u32 (wat4 zs 16), .slice none 0 0, .slice none 0 0]) W5 w1 → Below w.heap.size w w1 := fun w1 h => hbw4.trans (((hW5.trans h).1.below (Nat.le_refl _) (fun k hk e => by omega)).mono (by omega))
  have hr1 : ∀ w1, KI w4.heap.size 26 9 (List.toArray [.int .u8 z1, .int .u16 (wat zs 4), .bool (decide (16384 ≤ wat zs 6)), .int .u8 z8, .int .u8 z9, .int .u32 (wat4 zs 12), .int .u32 (wat4 zs 16), .slice none 0 0, .slice none 0 0]) W5 w1 → Rd w.heap.size w1 (.slice (some ⟨b, off, none⟩) zs.length cap) zs := fun w1 h => hI.below (hbel w1 h)
  have e1 : ∀ w1, KI w4.heap.size 26 9 (List.toArray [.int .u8 z1, .int .u16 (wat zs 4), .bool (decide (16384 ≤ wat zs 6)), .int .u8 z8, .int .u8 z9, .int .u32 (wat4 zs 12), .int .u32 (wat4 zs 16), .slice none 0 0, .slice none 0 0]) W5 w1 → w1.cell? ⟨b, off + 1, none⟩ = some (.int .u8 z1) := fun w1 h => ((hbel w1 h).cell (p := ⟨b, off + 1, none⟩) hb).trans d1
  have e8 : ∀ w1, KI w4.heap.size 26 9 (List.toArray [.int .u8 z1, .int .u16 (wat zs 4), .bool (decide (16384 ≤ wat zs 6)), .int .u8 z8, .int .u8 z9, .int .u32 (wat4 zs 12), .int .u32 (wat4 zs 16), .slice none 0 0, .slice none 0 0]) W5 w1 → w1.cell? ⟨b, off + 8, none⟩ = some (.int .u8 z8) := fun w1 h => ((hbel w1 h).cell (p := ⟨b, off + 8, none⟩) hb).trans d8
  have e9 : ∀ w1, KI w4.heap.size 26 9 (List.toArray [.int .u8 z1, .int .u16 (wat zs 4), .bool (decide (16384 ≤ wat zs 6)), .int .u8 z8, .int .u8 z9, .int .u32 (wat4 zs 12), .int .u32 (wat4 zs 16), .slice none 0 0, .slice none 0 0]) W5 w1 → w1.cell? ⟨b, off + 9, none⟩ = some (.int .u8 z9) := fun w1 h => ((hbel w1 h).cell (p := ⟨b, off + 9, none⟩) hb).trans d9
  clear d1 d8 d9
  refine anyR_val (KI.pre _ _ _ _) 0 rfl (by kernel_rfl) (by kernel_rfl) (by kernel_rfl) (fun _ _ _ _ h => h) rfl ?_; apply Exists.intro; refine ⟨fun w1 hw1 => ?_, ?_⟩; (· (go_simp; rfl)); simp only [Act.put, sA, sB, sC]
  refine anyR_val (KI.pre _ _ _ _) 1 rfl (by kernel_rfl) (by kernel_rfl) (by kernel_rfl) (fun _ _ _ _ h => h) rfl ?_; apply Exists.intro; refine ⟨fun w1 hw1 => ?_, ?_⟩; (· (go_simp; rfl)); simp only [Act.put, sA, sB, sC]
  refine anyR_val (KI.pre _ _ _ _) 2 rfl (by kernel_rfl) (by kernel_rfl) (by kernel_rfl) (fun _ _ _ _ h => h) rfl ?_; apply Exists.intro; refine ⟨fun w1 hw1 => ?_, ?_⟩; (· (go_simp; rfl)); simp only [Act.put, sA, sB, sC]
  refine anyR_val (KI.pre _ _ _ _) 3 rfl (by kernel_rfl) (by kernel_rfl) (by kernel_rfl) (fun _ _ _ _ h => h) rfl ?_; apply Exists.intro; refine ⟨fun w1 hw1 => ?_, ?_⟩; (· (go_simp; rfl)); simp only [Act.put, sA, sB, sC]
  refine anyR_take (KI.pre _ _ _ _) 4 (.int .u16 (wat zs 4)) rfl (by kernel_rfl) (by kernel_rfl) (by kernel_rfl) (fun _ _ _ h => h) rfl (fun w1 hw1 => goes_call 62 #[.slice (some ⟨b, off, none⟩) zs.length cap, .int .i64 4] (by go_simp) ?_) ?_
  ·exact (rget16_rd _ zs hB 4 (by omega) hl w1 (hr1 w1 hw1)).mono fun e w' ⟨he, hw⟩ => ⟨he, KI.of hw⟩
  simp only [Act.put, sA, sB, sC]
  refine anyR_val (KI.pre _ _ _ _) 5 rfl (by kernel_rfl) (by kernel_rfl) (by kernel_rfl) (fun _ _ _ _ h => h) rfl ?_; apply Exists.intro; refine ⟨fun w1 hw1 => ?_, ?_⟩; (· (go_simp; rfl)); simp only [Act.put, sA, sB, sC]
  refine anyR_val (KI.pre _ _ _ _) 6 rfl (by kernel_rfl) (by kernel_rfl) (by kernel_rfl) (fun _ _ _ _ h => h) rfl ?_; apply Exists.intro; refine ⟨fun w1 hw1 => ?_, ?_⟩; (· (go_simp; rfl)); simp only [Act.put, sA, sB, sC]
  refine anyR_val (KI.pre _ _ _ _) 7 rfl (by kernel_rfl) (by kernel_rfl) (by kernel_rfl) (fun _ _ _ _ h => h) rfl ?_; apply Exists.intro; refine ⟨fun w1 hw1 => ?_, ?_⟩; (· (go_simp; rfl)); simp only [Act.put, sA, sB, sC]
  refine anyR_val (KI.pre _ _ _ _) 8 rfl (by kernel_rfl) (by kernel_rfl) (by kernel_rfl) (fun _ _ _ _ h => h) rfl ?_; apply Exists.intro; refine ⟨fun w1 hw1 => ?_, ?_⟩; (· (go_simp; rfl)); simp only [Act.put, sA, sB, sC]
  refine anyR_val (KI.pre _ _ _ _) 9 rfl (by kernel_rfl) (by kernel_rfl) (by kernel_rfl) (fun _ _ _ _ h => h) rfl ?_; apply Exists.intro; refine ⟨fun w1 hw1 => ?_, ?_⟩; (· (go_simp; rfl)); simp only [Act.put, sA, sB, sC]
  refine anyR_val (KI.pre _ _ _ _) 10 rfl (by kernel_rfl) (by kernel_rfl) (by kernel_rfl) (fun _ _ _ _ h => h) rfl ?_; apply Exists.intro; refine ⟨fun w1 hw1 => ?_, ?_⟩; (· (go_simp; rfl)); simp only [Act.put, sA, sB, sC]
  refine anyR_val (KI.pre _ _ _ _) 11 rfl (by kernel_rfl) (by kernel_rfl) (by kernel_rfl) (fun _ _ _ _ h => h) rfl ?_; apply Exists.intro; refine ⟨fun w1 hw1 => ?_, ?_⟩; (· (go_simp; rfl)); simp only [Act.put, sA, sB, sC]
  refine anyR_val (KI.pre _ _ _ _) 12 rfl (by kernel_rfl) (by kernel_rfl) (by kernel_rfl) (fun _ _ _ _ h => h) rfl ?_; apply Exists.intro; refine ⟨fun w1 hw1 => ?_, ?_⟩; (· (go_simp; rfl)); simp only [Act.put, sA, sB, sC]
  refine anyR_val (KI.pre _ _ _ _) 13 rfl (by kernel_rfl) (by kernel_rfl) (by kernel_rfl) (fun _ _ _ _ h => h) rfl ?_; apply Exists.intro; refine ⟨fun w1 hw1 => ?_, ?_⟩; (· (go_simp; rfl)); simp only [Act.put, sA, sB, sC]
  refine anyR_take (KI.pre _ _ _ _) 14 (.int .u32 (wat4 zs 12)) rfl (by kernel_rfl) (by kernel_rfl) (by kernel_rfl) (fun _ _ _ h => h) rfl (fun w1 hw1 => goes_call 36 #[.slice (some ⟨b, off, none⟩) zs.length cap, .int .i64 12] (by go_simp) ?_) ?_
  ·exact (rget32_rd _ zs hB 12 (by omega) hl w1 (hr1 w1 hw1)).mono fun e w' ⟨he, hw⟩ => ⟨he, KI.of hw⟩
  simp only [Act.put, sA, sB, sC]
  refine anyR_val (KI.pre _ _ _ _) 15 rfl (by kernel_rfl) (by kernel_rfl) (by kernel_rfl) (fun _ _ _ _ h => h) rfl ?_; apply Exists.intro; refine ⟨fun w1 hw1 => ?_, ?_⟩; (· (go_simp; rfl)); simp only [Act.put, sA, sB, sC]
  refine anyR_take (KI.pre _ _ _ _) 16 (.int .u32 (wat4 zs 16)) rfl (by kernel_rfl) (by kernel_rfl) (by kernel_rfl) (fun _ _ _ h => h) rfl (fun w1 hw1 => goes_call 36 #[.slice (some ⟨b, off, none⟩) zs.length cap, .int .i64 16] (by go_simp) ?_) ?_
  ·exact (rget32_rd _ zs hB 16 (by omega) hl w1 (hr1 w1 hw1)).mono fun e w' ⟨he, hw⟩ => ⟨he, KI.of hw⟩
  simp only [Act.put, sA, sB, sC]
  refine anyR_val (KI.pre _ _ _ _) 17 rfl (by kernel_rfl) (by kernel_rfl) (by kernel_rfl) (fun _ _ _ _ h => h) rfl ?_; apply Exists.intro; refine ⟨fun w1 hw1 => ?_, ?_⟩; (· (go_simp; rfl)); simp only [Act.put, sA, sB, sC]

  refine anyR_one 18 rfl (by kernel_rfl) rfl (fun W6 hW6 => ?_)
  have hs6 : w4.heap.size ≤ W6.heap.size := (hW5.trans hW6).1.size
  unfold Oper.wp
  go_simp
  refine ⟨KI.of ((Below.refl _ _).alloc (Nat.le_refl _) _), ?_⟩
  refine anyR_one 19 rfl (by kernel_rfl) rfl (fun W7 hW7 => ?_)
  have hwr : Wr W6.heap.size 9 26 W7 := hW7.2.1 _ ⟨_, heap_alloc_new W6 _, rfl⟩
  have hst := KI.store (n₁ := w4.heap.size) [.int .u8 z1, .int .u16 (wat zs 4), .bool (decide (16384 ≤ wat zs 6)), .int .u8 z8, .int .u8 z9, .int .u32 (wat4 zs 12), .int .u32 (wat4 zs 16), .slice none 0 0, .slice none 0 0] hs6 hwr rfl
  obtain ⟨cur, hcur, hsz⟩ := hwr
  have k7 := block_cell hcur
  have f7 := block_frozen hcur
  have HS := hide hst
  clear hst
  unfold Oper.wp
  go_simp
  generalize hV : ((((((((W7.setCell ⟨W6.heap.size, 0, none⟩ _).setCell ⟨W6.heap.size, 1, none⟩ _).setCell ⟨W6.heap.size, 2, none⟩ _).setCell ⟨W6.heap.size, 3, none⟩ _).setCell ⟨W6.heap.size, 4, none⟩ _).setCell ⟨W6.heap.size, 5, none⟩ _).setCell ⟨W6.heap.size, 6, none⟩ _).setCell ⟨W6.heap.size, 7, none⟩ _).setCell ⟨W6.heap.size, 8, none⟩ _ = V
  have hV9 : V = putRow W7 W6.heap.size 0 [.int .u8 z1, .int .u16 (wat zs 4), .bool (decide (16384 ≤ wat zs 6)), .int .u8 z8, .int .u8 z9, .int .u32 (wat4 zs 12), .int .u32 (wat4 zs 16), .slice none 0 0, .slice none 0 0] := hV.symm
  have hst := HS.out
  rw [← hV9] at hst
  clear hV hV9 HS k7 f7
  refine ⟨hst.1, anyR_done (by kernel_rfl) (fun W8 hW8 => ?_)⟩
  have p8 := hW8.2.2 _ hst.2
  have hwW8 : Below w.heap.size w W8 := hbel W8 (((hW6.trans (KI.of ((Below.refl _ _).alloc (Nat.le_refl _) _))).trans hW7).trans (hst.1.trans hW8))
  have hq8 : w.heap.size < W6.heap.size := by omega
  have pw8 : Wr w.heap.size 9 26 W8 := hW8.2.1 _ (hst.1.2.1 _ (hW7.2.1 _ ((KI.of ((Below.refl W6.heap.size W6).alloc (Nat.le_refl _) _) : KI w4.heap.size 26 9 (List.toArray [.int .u8 z1, .int .u16 (wat zs 4), .bool (decide (16384 ≤ wat zs 6)), .int .u8 z8, .int .u8 z9, .int .u32 (wat4 zs 12), .int .u32 (wat4 zs 16), .slice none 0 0, .slice none 0 0]) W6 _).2.1 _ (hW6.2.1 _ (hW5.2.1 _ ⟨_, (hL4.block w.heap.size (by omega)).trans p1, rfl⟩)))))
  generalize W6.heap.size = pb at *
  clear hbel hr1 e1 e8 e9 hst hW7 hW6 hs6 hcur hsz hW8
  have hs8 := (Array.getElem?_eq_some_iff.1 p8).1
  have P8 := block_cell p8
  go_wp2_with fail
  have hR8 := (((hI.below hwW8).take k (by omega)).cutAt 20 (by omega)).drew 1
  obtain ⟨v9, W9, hrun9, hown9, hgr9⟩ := run_app (P := Tryz.prog) W8.drew 24 24 5 (pb + 1) i0 Tryz.underlying24 hi hz0 hz1 hz2 (.slice none 0 0) [] (World.ownsRow_nil _ _ _ _) w.heap.size _ ((zs.take k).drop 20) hR8 (by simp; omega) hs8
  have hl9 : Later W8 W9 := Later.trans (Later.drew W8) ((Below.refl _ W8.drew).grown hgr9 (Nat.le_refl _) (fun _ e => by cases e))
  have hO9 := Ow.of_row hown9
  rw [List.nil_append] at hO9
  obtain ⟨a9, cap9, rfl, hq9, hm9⟩ := hO9.slice
  clear hown9 hgr9 hR8
  have p9 := (hl9.block pb hs8).trans p8
  have P9 := block_cell p9
  have F9 := block_frozen p9
  have hLo : Hid (((zs.take k).drop 20).length = k - 20) := by show _ = _; simp; omega
  rw [hLo.out] at hrun9 hO9
  have i20 : (20 : Int) ≤ k := by omega
  go_region_law (refine step_run rfl (.tmp 92) (.tmp 95) 24 rfl _ _ rfl rfl _ W9 hrun9 ?_)
  clear hrun9 P8 P9 F9
  generalize (if cap = 20 then some (⟨b, off, none⟩ : Addr) else some ⟨b, off + 20, none⟩) = ad20 at *
  have p10 : (W9.setCell ⟨pb, 7, none⟩ (.slice a9 (k - 20) cap9)).heap[pb]? = some (.cells (List.toArray [.int .u8 z1, .int .u16 (wat zs 4), .bool (decide (16384 ≤ wat zs 6)), .int .u8 z8, .int .u8 z9, .int .u32 (wat4 zs 12), .int .u32 (wat4 zs 16), .slice a9 (k - 20) cap9, .slice none 0 0]) 26 (0, 0)) := heap_set1 p9 7 (.slice a9 (k - 20) cap9)
  have hE9 : But (fun b => b = pb) W9 (W9.setCell ⟨pb, 7, none⟩ (.slice a9 (k - 20) cap9)) := (But.refl (fun b => b = pb) W9).setCell (p := ⟨pb, 7, none⟩) (E := fun b => b = pb) rfl _
  have hO10 := hO9.but hE9 (fun b h e => by omega)
  have hw10 : Below w.heap.size w _ := (hwW8.trans (hl9.mono hwW8.size)).setCell (p := ⟨pb, 7, none⟩) (Nat.le_of_lt hq8) (.slice a9 (k - 20) cap9)
  have pw10 : Wr w.heap.size 9 26 (W9.setCell ⟨pb, 7, none⟩ (.slice a9 (k - 20) cap9)) := by
   obtain ⟨c, h1, h2⟩ := pw8.later hl9
   exact ⟨c, (hE9.block _ (Array.getElem?_eq_some_iff.1 h1).1 (by omega)).trans h1, h2⟩
  generalize W9.setCell ⟨pb, 7, none⟩ (.slice a9 (k - 20) cap9) = W10 at *
  clear hO9 p9 hE9 hl9 hwW8 pw8
  have hs10 := (Array.getElem?_eq_some_iff.1 p10).1
  have P10 := block_cell p10
  go_wp2_with fail
  have hR10 := (((hI.below hw10).take n (by omega)).cutAt k (by omega)).drew 1
  obtain ⟨v11, W11, hrun11, hown11, hgr11⟩ := run_app (P := Tryz.prog) W10.drew 24 24 5 (pb + 1) i0 Tryz.underlying24 hi hz0 hz1 hz2 (.slice none 0 0) [] (World.ownsRow_nil _ _ _ _) w.heap.size _ ((zs.take n).drop k) hR10 (by simp; omega) hs10
  have hl11 : Later W10 W11 := Later.trans (Later.drew W10) ((Below.refl _ W10.drew).grown hgr11 (Nat.le_refl _) (fun _ e => by cases e))
  have hO11 := Ow.of_row hown11
  rw [List.nil_append] at hO11
  obtain ⟨a11, cap11, rfl, hq11, hm11⟩ := hO11.slice
  clear hown11 hgr11 hR10
  have p11 := (hl11.block pb hs10).trans p10
  have P11 := block_cell p11
  have F11 := block_frozen p11
  have hLd : Hid (((zs.take n).drop k).length = n - k) := by show _ = _; simp; try omega
  rw [hLd.out] at hrun11 hO11
  have ikn : (k : Int) ≤ n := by omega
  have inc : n ≤ cap := by omega
  have inc2 : (n : Int) ≤ cap := by omega
  go_region_law (refine step_run rfl (.tmp 99) (.tmp 103) 24 rfl _ _ rfl rfl _ W11 hrun11 ?_)
  clear hrun11 P10 P11 F11
  generalize (if cap = k then some (⟨b, off, none⟩ : Addr) else some ⟨b, off + k, none⟩) = adk at *
  have p12 : (W11.setCell ⟨pb, 8, none⟩ (.slice a11 (n - k) cap11)).heap[pb]? = some (.cells (List.toArray [.int .u8 z1, .int .u16 (wat zs 4), .bool (decide (16384 ≤ wat zs 6)), .int .u8 z8, .int .u8 z9, .int .u32 (wat4 zs 12), .int .u32 (wat4 zs 16), .slice a9 (k - 20) cap9, .slice a11 (n - k) cap11]) 26 (0, 0)) := heap_set1 p11 8 (.slice a11 (n - k) cap11)
  have hE11 : But (fun b => b = pb) W11 (W11.setCell ⟨pb, 8, none⟩ (.slice a11 (n - k) cap11)) := (But.refl (fun b => b = pb) W11).setCell (p := ⟨pb, 8, none⟩) (E := fun b => b = pb) rfl _
  have hO12 := hO11.but hE11 (fun b h e => by omega)
  have hO13 := (hO10.below hl11 (Nat.le_refl _)).but hE11 (fun b h e => by omega)
  have hw12 : Below w.heap.size w _ := (hw10.trans (hl11.mono hw10.size)).setCell (p := ⟨pb, 8, none⟩) (Nat.le_of_lt hq8) (.slice a11 (n - k) cap11)
  have pw12 : Wr w.heap.size 9 26 (W11.setCell ⟨pb, 8, none⟩ (.slice a11 (n - k) cap11)) := by
   obtain ⟨c, h1, h2⟩ := pw10.later hl11
   exact ⟨c, (hE11.block _ (Array.getElem?_eq_some_iff.1 h1).1 (by omega)).trans h1, h2⟩
  generalize W11.setCell ⟨pb, 8, none⟩ (.slice a11 (n - k) cap11) = W12 at *
  clear hO11 p11 hE11 hl11 hw10 pw10 hO10
  have P12 := block_cell p12
  obtain ⟨cur, hcur, hsz⟩ := pw12
  have C12 := block_cell hcur
  have F12 := block_frozen hcur
  go_wp2_with fail
  generalize hV : ((((((((W12.setCell ⟨w.heap.size, 0, none⟩ _).setCell ⟨w.heap.size, 1, none⟩ _).setCell ⟨w.heap.size, 2, none⟩ _).setCell ⟨w.heap.size, 3, none⟩ _).setCell ⟨w.heap.size, 4, none⟩ _).setCell ⟨w.heap.size, 5, none⟩ _).setCell ⟨w.heap.size, 6, none⟩ _).setCell ⟨w.heap.size, 7, none⟩ _).setCell ⟨w.heap.size, 8, none⟩ _ = V
  have hV9 : V = putRow W12 w.heap.size 0 [.int .u8 z1, .int .u16 (wat zs 4), .bool (decide (16384 ≤ wat zs 6)), .int .u8 z8, .int .u8 z9, .int .u32 (wat4 zs 12), .int .u32 (wat4 zs 16), .slice a9 (k - 20) cap9, .slice a11 (n - k) cap11] := hV.symm
  have hb13 : But (fun b => b = w.heap.size) W12 V := by rw [hV9]; exact putRow_but (E := fun b => b = w.heap.size) (n := w.heap.size) rfl _ _ _ _ (But.refl _ _)
  have p13 := putRow_all [.int .u8 z1, .int .u16 (wat zs 4), .bool (decide (16384 ≤ wat zs 6)), .int .u8 z8, .int .u8 z9, .int .u32 (wat4 zs 12), .int .u32 (wat4 zs 16), .slice a9 (k - 20) cap9, .slice a11 (n - k) cap11] hcur (by simpa using hsz)
  rw [← hV9] at p13
  have hd : decide (16384 ≤ wat zs 6 % 32768) = decide (16384 ≤ wat zs 6) := by rw [Int.emod_eq_of_lt (by omega) (by omega)]
  have hpk : pkt zs (.slice a9 (k - 20) cap9) (.slice a11 (n - k) cap11) = .agg (List.toArray [.int .u8 z1, .int .u16 (wat zs 4), .bool (decide (16384 ≤ wat zs 6)), .int .u8 z8, .int .u8 z9, .int .u32 (wat4 zs 12), .int .u32 (wat4 zs 16), .slice a9 (k - 20) cap9, .slice a11 (n - k) cap11]) := by unfold pkt; rw [G1.out, G8.out, G9.out, hd]
  refine bodyPost_ret (v := .tuple #[pkt zs (.slice a9 (k - 20) cap9) (.slice a11 (n - k) cap11), .int .i64 0]) (by rw [hpk]; exact res_rread _ w.heap.size 0 _ _ _ _ _ _ _ _ _ V rfl rfl p13) rfl ⟨hw12.trans (hb13.below hw12.size (fun j h e => by omega)), .inr ⟨HR.out, _, _, rfl, ?_, ?_⟩⟩
  ·rw [HK.out, Int.toNat_natCast]
   exact (hO13.but hb13 (fun b h e => by omega)).mono (by omega)
  ·rw [HK.out, HN.out, Int.toNat_natCast, Int.toNat_natCast]
   exact (hO12.but hb13 (fun b h e => by omega)).mono (by omega)

 ·by_cases h6 : (zs.length : Int) < wat zs 2
  ·go_wp2_with fail
   refine (rgood_any _ (zs.take k) (hB.take _) (by simp; omega) w2 (((hI.take k (by omega)).below (hb1.trans (hl2.mono (by omega)))).mono (by omega))).mono ?_
   rintro e w3 ⟨rfl, hl3⟩
   have hL3 : Later _ w3 := hl2.trans hl3
   have z3 := hL3.size
   cases hg : (Mt.cks (zs.take k) == 0)
   ·have hc5 : chk zs = 5 := by unfold chk; rw [HK.out, Int.toNat_natCast, if_pos (by simpa using hg)]
    have HR : Hid (rde true zs = 5) := by show _ = _; unfold rde; rw [hm0.out, if_neg (by simp), if_neg (by simp [ral]; omega), hc5]; rfl
    clear hc5
    have pk := ((hL3).block w.heap.size (by omega)).trans p1
    have Pk := block_cell pk
    have Fk := block_frozen pk
    go_wp2_with fail
    clear Pk Fk
    generalize hV : ((((((((w3.setCell ⟨w.heap.size, 0, none⟩ _).setCell ⟨w.heap.size, 1, none⟩ _).setCell ⟨w.heap.size, 2, none⟩ _).setCell ⟨w.heap.size, 3, none⟩ _).setCell ⟨w.heap.size, 4, none⟩ _).setCell ⟨w.heap.size, 5, none⟩ _).setCell ⟨w.heap.size, 6, none⟩ _).setCell ⟨w.heap.size, 7, none⟩ _).setCell ⟨w.heap.size, 8, none⟩ _ = V
    have hV9 : V = putRow w3 w.heap.size 0 zc := hV.symm
    have hb8 : But (fun b => b = w.heap.size) w3 V := by rw [hV9]; exact putRow_but (E := fun b => b = w.heap.size) (n := w.heap.size) rfl _ _ _ _ (But.refl _ _)
    have p8 := putRow_all zc pk rfl
    rw [← hV9] at p8
    exact rexit _ w.heap.size 5 _ rfl rfl p8 ⟨(hb1.trans ((hL3).mono (by omega))).trans (hb8.below (Nat.le_trans (by omega) (hL3).size) (fun j h e => by omega)), .inl (by rw [HR.out]; exact ⟨by omega, rfl⟩)⟩

   have hg0 : Mt.cks (zs.take k) = 0 := by simpa using hg
   have Hg := hide hg0
   clear hg hg0
   go_wp2_with fail
   refine (rget16_rd _ zs hB 6 (by omega) hl w3 (hI.below (hb1.trans (hL3.mono (by omega))))).mono ?_
   rintro e w4 ⟨rfl, hl4'⟩
   have hL4 : Later _ w4 := hL3.trans hl4'
   have z4 := hL4.size
   have hff := wat_bd hB 6
   by_cases h7 : wat zs 6 % 16384 ≠ 0
   ·have t7 : (wat zs 6 % 16384 != 0) = true := by simpa using h7
    have hc5 : chk zs = 7 := by unfold chk; rw [HK.out, Int.toNat_natCast, if_neg (by simp [Hg.out]), if_pos h7]
    have HR : Hid (rde true zs = 7) := by show _ = _; unfold rde; rw [hm0.out, if_neg (by simp), if_neg (by simp [ral]; omega), hc5]; rfl
    clear hc5
    have pk := ((hL4).block w.heap.size (by omega)).trans p1
    have Pk := block_cell pk
    have Fk := block_frozen pk
    go_wp2_with fail
    clear Pk Fk
    generalize hV : ((((((((w4.setCell ⟨w.heap.size, 0, none⟩ _).setCell ⟨w.heap.size, 1, none⟩ _).setCell ⟨w.heap.size, 2, none⟩ _).setCell ⟨w.heap.size, 3, none⟩ _).setCell ⟨w.heap.size, 4, none⟩ _).setCell ⟨w.heap.size, 5, none⟩ _).setCell ⟨w.heap.size, 6, none⟩ _).setCell ⟨w.heap.size, 7, none⟩ _).setCell ⟨w.heap.size, 8, none⟩ _ = V
    have hV9 : V = putRow w4 w.heap.size 0 zc := hV.symm
    have hb8 : But (fun b => b = w.heap.size) w4 V := by rw [hV9]; exact putRow_but (E := fun b => b = w.heap.size) (n := w.heap.size) rfl _ _ _ _ (But.refl _ _)
    have p8 := putRow_all zc pk rfl
    rw [← hV9] at p8
    exact rexit _ w.heap.size 7 _ rfl rfl p8 ⟨(hb1.trans ((hL4).mono (by omega))).trans (hb8.below (Nat.le_trans (by omega) (hL4).size) (fun j h e => by omega)), .inl (by rw [HR.out]; exact ⟨by omega, rfl⟩)⟩

   have t7 : (wat zs 6 % 16384 != 0) = false := by simpa using h7
   by_cases h8 : 32768 ≤ wat zs 6
   ·have hc5 : chk zs = 4 := by unfold chk; rw [HK.out, Int.toNat_natCast, if_neg (by simp [Hg.out]), if_neg h7, if_pos h8]
    have HR : Hid (rde true zs = 4) := by show _ = _; unfold rde; rw [hm0.out, if_neg (by simp), if_neg (by simp [ral]; omega), hc5]; rfl
    clear hc5
    have pk := ((hL4).block w.heap.size (by omega)).trans p1
    have Pk := block_cell pk
    have Fk := block_frozen pk
    go_wp2_with fail
    clear Pk Fk
    generalize hV : ((((((((w4.setCell ⟨w.heap.size, 0, none⟩ _).setCell ⟨w.heap.size, 1, none⟩ _).setCell ⟨w.heap.size, 2, none⟩ _).setCell ⟨w.heap.size, 3, none⟩ _).setCell ⟨w.heap.size, 4, none⟩ _).setCell ⟨w.heap.size, 5, none⟩ _).setCell ⟨w.heap.size, 6, none⟩ _).setCell ⟨w.heap.size, 7, none⟩ _).setCell ⟨w.heap.size, 8, none⟩ _ = V
    have hV9 : V = putRow w4 w.heap.size 0 zc := hV.symm
    have hb8 : But (fun b => b = w.heap.size) w4 V := by rw [hV9]; exact putRow_but (E := fun b => b = w.heap.size) (n := w.heap.size) rfl _ _ _ _ (But.refl _ _)
    have p8 := putRow_all zc pk rfl
    rw [← hV9] at p8
    exact rexit _ w.heap.size 4 _ rfl rfl p8 ⟨(hb1.trans ((hL4).mono (by omega))).trans (hb8.below (Nat.le_trans (by omega) (hL4).size) (fun j h e => by omega)), .inl (by rw [HR.out]; exact ⟨by omega, rfl⟩)⟩

   have hc0 : Hid (chk zs = 0) := by show _ = _; unfold chk; rw [HK.out, Int.toNat_natCast, if_neg (by simp [Hg.out]), if_neg h7, if_neg h8]

   by_cases h9 : (zs.length : Int) - (k : Int) < 8
   ·have HR : Hid (rde true zs = 3) := by show _ = _; unfold rde; rw [hm0.out, if_neg (by simp), if_neg (by simp [ral]; omega), hc0.out, if_neg (by simp), HK.out, if_pos ⟨rfl, by simp [ral]; omega⟩]
    have pk := ((hL4).block w.heap.size (by omega)).trans p1
    have Pk := block_cell pk
    have Fk := block_frozen pk
    go_wp2_with fail
    clear Pk Fk
    generalize hV : ((((((((w4.setCell ⟨w.heap.size, 0, none⟩ _).setCell ⟨w.heap.size, 1, none⟩ _).setCell ⟨w.heap.size, 2, none⟩ _).setCell ⟨w.heap.size, 3, none⟩ _).setCell ⟨w.heap.size, 4, none⟩ _).setCell ⟨w.heap.size, 5, none⟩ _).setCell ⟨w.heap.size, 6, none⟩ _).setCell ⟨w.heap.size, 7, none⟩ _).setCell ⟨w.heap.size, 8, none⟩ _ = V
    have hV9 : V = putRow w4 w.heap.size 0 zc := hV.symm
    have hb8 : But (fun b => b = w.heap.size) w4 V := by rw [hV9]; exact putRow_but (E := fun b => b = w.heap.size) (n := w.heap.size) rfl _ _ _ _ (But.refl _ _)
    have p8 := putRow_all zc pk rfl
    rw [← hV9] at p8
    exact rexit _ w.heap.size 3 _ rfl rfl p8 ⟨(hb1.trans ((hL4).mono (by omega))).trans (hb8.below (Nat.le_trans (by omega) (hL4).size) (fun j h e => by omega)), .inl (by rw [HR.out]; exact ⟨by omega, rfl⟩)⟩

   have HR : Hid (rde true zs = 0) := by show _ = _; unfold rde; rw [hm0.out, if_neg (by simp), if_neg (by simp [ral]; omega), hc0.out, if_neg (by simp), HK.out, if_neg (by simp [ral]; omega)]

   go_wp2_with fail
   have hkn : 20 ≤ k ∧ k ≤ zs.length ∧ zs.length ≤ zs.length := by omega
   have HN : Hid (ral true zs = (zs.length : Int)) := by show _ = _; simp [ral]; omega

   have d1 := hc 1 (by omega)
   have d8 := hc 8 (by omega)
   have d9 := hc 9 (by omega)
   have hbw4 := hb1.trans (hL4.mono (by omega))
   generalize gz1 : zs[1]?.getD 0 = z1 at *
   generalize gz8 : zs[8]?.getD 0 = z8 at *
   generalize gz9 : zs[9]?.getD 0 = z9 at *
   have G1 := hide gz1
   have G8 := hide gz8
   have G9 := hide gz9
   clear gz1 gz8 gz9
   have i1 : (1 : Int) < zs.length := by omega
   have i8 : (8 : Int) < zs.length := by omega
   have i9 : (9 : Int) < zs.length := by omega
   refine anyR_begin (R := KI w4.heap.size 26 9 (List.toArray [.int .u8 z1, .int .u16 (wat zs 4), .bool (decide (16384 ≤ wat zs 6)), .int .u8 z8, .int .u8 z9, .int .u32 (wat4 zs 12), .int .u32 (wat4 zs 16), .slice none 0 0, .slice none 0 0])) (KI.pre _ _ _ _) (fun w => KI.of (Later.drew w)) 20 rfl (by kernel_rfl) (fun W5 hW5 => ?_)
   have hbel : ∀ w1, KI w4.heap.size 26 9 (List.toArray [.int .u8 z1, .int .u16 (wat zs 4), .bool (decide (16384 ≤ wat zs 6)), .int .u8 z8, .int .u8 z9, .int .u32 (wat4 zs 12), .int .u32 (wat4 zs 16), .slice none 0 0, .slice none 0 0]) W5 w1 → Below w.heap.size w w1 := fun w1 h => hbw4.trans (((hW5.trans h).1.below (Nat.le_refl _) (fun k hk e => by omega)).mono (by omega))
   have hr1 : ∀ w1, KI w4.heap.size 26 9 (List.toArray [.int .u8 z1, .int .u16 (wat zs 4), .bool (decide (16384 ≤ wat zs 6)), .int .u8 z8, .int .u8 z9, .int .u32 (wat4 zs 12), .int .u32 (wat4 zs 16), .slice none 0 0, .slice none 0 0]) W5 w1 → Rd w.heap.size w1 (.slice (some ⟨b, off, none⟩) zs.length cap) zs := fun w1 h => hI.below (hbel w1 h)
   have e1 : ∀ w1, KI w4.heap.size 26 9 (List.toArray [.int .u8 z1, .int .u16 (wat zs 4), .bool (decide (16384 ≤ wat zs 6)), .int .u8 z8, .int .u8 z9, .int .u32 (wat4 zs 12), .int .u32 (wat4 zs 16), .slice none 0 0, .slice none 0 0]) W5 w1 → w1.cell? ⟨b, off + 1, none⟩ = some (.int .u8 z1) := fun w1 h => ((hbel w1 h).cell (p := ⟨b, off + 1, none⟩) hb).trans d1
   have e8 : ∀ w1, KI w4.heap.size 26 9 (List.toArray [.int .u8 z1, .int .u16 (wat zs 4), .bool (decide (16384 ≤ wat zs 6)), .int .u8 z8, .int .u8 z9, .int .u32 (wat4 zs 12), .int .u32 (wat4 zs 16), .slice none 0 0, .slice none 0 0]) W5 w1 → w1.cell? ⟨b, off + 8, none⟩ = some (.int .u8 z8) := fun w1 h => ((hbel w1 h).cell (p := ⟨b, off + 8, none⟩) hb).trans d8
   have e9 : ∀ w1, KI w4.heap.size 26 9 (List.toArray [.int .u8 z1, .int .u16 (wat zs 4), .bool (decide (16384 ≤ wat zs 6)), .int .u8 z8, .int .u8 z9, .int .u32 (wat4 zs 12), .int .u32 (wat4 zs 16), .slice none 0 0, .slice none 0 0]) W5 w1 → w1.cell? ⟨b, off + 9, none⟩ = some (.int .u8 z9) := fun w1 h => ((hbel w1 h).cell (p := ⟨b, off + 9, none⟩) hb).trans d9
   clear d1 d8 d9
   refine anyR_val (KI.pre _ _ _ _) 0 rfl (by kernel_rfl) (by kernel_rfl) (by kernel_rfl) (fun _ _ _ _ h => h) rfl ?_; apply Exists.intro; refine ⟨fun w1 hw1 => ?_, ?_⟩; (· (go_simp; rfl)); simp only [Act.put, sA, sB, sC]
   refine anyR_val (KI.pre _ _ _ _) 1 rfl (by kernel_rfl) (by kernel_rfl) (by kernel_rfl) (fun _ _ _ _ h => h) rfl ?_; apply Exists.intro; refine ⟨fun w1 hw1 => ?_, ?_⟩; (· (go_simp; rfl)); simp only [Act.put, sA, sB, sC]
   refine anyR_val (KI.pre _ _ _ _) 2 rfl (by kernel_rfl) (by kernel_rfl) (by kernel_rfl) (fun _ _ _ _ h => h) rfl ?_; apply Exists.intro; refine ⟨fun w1 hw1 => ?_, ?_⟩; (· (go_simp; rfl)); simp only [Act.put, sA, sB, sC]
   refine anyR_val (KI.pre _ _ _ _) 3 rfl (by kernel_rfl) (by kernel_rfl) (by kernel_rfl) (fun _ _ _ _ h => h) rfl ?_; apply Exists.intro; refine ⟨fun w1 hw1 => ?_, ?_⟩; (· (go_simp; rfl)); simp only [Act.put, sA, sB, sC]
   refine anyR_take (KI.pre _ _ _ _) 4 (.int .u16 (wat zs 4)) rfl (by kernel_rfl) (by kernel_rfl) (by kernel_rfl) (fun _ _ _ h => h) rfl (fun w1 hw1 => goes_call 62 #[.slice (some ⟨b, off, none⟩) zs.length cap, .int .i64 4] (by go_simp) ?_) ?_
   ·exact (rget16_rd _ zs hB 4 (by omega) hl w1 (hr1 w1 hw1)).mono fun e w' ⟨he, hw⟩ => ⟨he, KI.of hw⟩
   simp only [Act.put, sA, sB, sC]
   refine anyR_val (KI.pre _ _ _ _) 5 rfl (by kernel_rfl) (by kernel_rfl) (by kernel_rfl) (fun _ _ _ _ h => h) rfl ?_; apply Exists.intro; refine ⟨fun w1 hw1 => ?_, ?_⟩; (· (go_simp; rfl)); simp only [Act.put, sA, sB, sC]
   refine anyR_val (KI.pre _ _ _ _) 6 rfl (by kernel_rfl) (by kernel_rfl) (by kernel_rfl) (fun _ _ _ _ h => h) rfl ?_; apply Exists.intro; refine ⟨fun w1 hw1 => ?_, ?_⟩; (· (go_simp; rfl)); simp only [Act.put, sA, sB, sC]
   refine anyR_val (KI.pre _ _ _ _) 7 rfl (by kernel_rfl) (by kernel_rfl) (by kernel_rfl) (fun _ _ _ _ h => h) rfl ?_; apply Exists.intro; refine ⟨fun w1 hw1 => ?_, ?_⟩; (· (go_simp; rfl)); simp only [Act.put, sA, sB, sC]
   refine anyR_val (KI.pre _ _ _ _) 8 rfl (by kernel_rfl) (by kernel_rfl) (by kernel_rfl) (fun _ _ _ _ h => h) rfl ?_; apply Exists.intro; refine ⟨fun w1 hw1 => ?_, ?_⟩; (· (go_simp; rfl)); simp only [Act.put, sA, sB, sC]
   refine anyR_val (KI.pre _ _ _ _) 9 rfl (by kernel_rfl) (by kernel_rfl) (by kernel_rfl) (fun _ _ _ _ h => h) rfl ?_; apply Exists.intro; refine ⟨fun w1 hw1 => ?_, ?_⟩; (· (go_simp; rfl)); simp only [Act.put, sA, sB, sC]
   refine anyR_val (KI.pre _ _ _ _) 10 rfl (by kernel_rfl) (by kernel_rfl) (by kernel_rfl) (fun _ _ _ _ h => h) rfl ?_; apply Exists.intro; refine ⟨fun w1 hw1 => ?_, ?_⟩; (· (go_simp; rfl)); simp only [Act.put, sA, sB, sC]
   refine anyR_val (KI.pre _ _ _ _) 11 rfl (by kernel_rfl) (by kernel_rfl) (by kernel_rfl) (fun _ _ _ _ h => h) rfl ?_; apply Exists.intro; refine ⟨fun w1 hw1 => ?_, ?_⟩; (· (go_simp; rfl)); simp only [Act.put, sA, sB, sC]
   refine anyR_val (KI.pre _ _ _ _) 12 rfl (by kernel_rfl) (by kernel_rfl) (by kernel_rfl) (fun _ _ _ _ h => h) rfl ?_; apply Exists.intro; refine ⟨fun w1 hw1 => ?_, ?_⟩; (· (go_simp; rfl)); simp only [Act.put, sA, sB, sC]
   refine anyR_val (KI.pre _ _ _ _) 13 rfl (by kernel_rfl) (by kernel_rfl) (by kernel_rfl) (fun _ _ _ _ h => h) rfl ?_; apply Exists.intro; refine ⟨fun w1 hw1 => ?_, ?_⟩; (· (go_simp; rfl)); simp only [Act.put, sA, sB, sC]
   refine anyR_take (KI.pre _ _ _ _) 14 (.int .u32 (wat4 zs 12)) rfl (by kernel_rfl) (by kernel_rfl) (by kernel_rfl) (fun _ _ _ h => h) rfl (fun w1 hw1 => goes_call 36 #[.slice (some ⟨b, off, none⟩) zs.length cap, .int .i64 12] (by go_simp) ?_) ?_
   ·exact (rget32_rd _ zs hB 12 (by omega) hl w1 (hr1 w1 hw1)).mono fun e w' ⟨he, hw⟩ => ⟨he, KI.of hw⟩
   simp only [Act.put, sA, sB, sC]
   refine anyR_val (KI.pre _ _ _ _) 15 rfl (by kernel_rfl) (by kernel_rfl) (by kernel_rfl) (fun _ _ _ _ h => h) rfl ?_; apply Exists.intro; refine ⟨fun w1 hw1 => ?_, ?_⟩; (· (go_simp; rfl)); simp only [Act.put, sA, sB, sC]
   refine anyR_take (KI.pre _ _ _ _) 16 (.int .u32 (wat4 zs 16)) rfl (by kernel_rfl) (by kernel_rfl) (by kernel_rfl) (fun _ _ _ h => h) rfl (fun w1 hw1 => goes_call 36 #[.slice (some ⟨b, off, none⟩) zs.length cap, .int .i64 16] (by go_simp) ?_) ?_
   ·exact (rget32_rd _ zs hB 16 (by omega) hl w1 (hr1 w1 hw1)).mono fun e w' ⟨he, hw⟩ => ⟨he, KI.of hw⟩
   simp only [Act.put, sA, sB, sC]
   refine anyR_val (KI.pre _ _ _ _) 17 rfl (by kernel_rfl) (by kernel_rfl) (by kernel_rfl) (fun _ _ _ _ h => h) rfl ?_; apply Exists.intro; refine ⟨fun w1 hw1 => ?_, ?_⟩; (· (go_simp; rfl)); simp only [Act.put, sA, sB, sC]

   refine anyR_one 18 rfl (by kernel_rfl) rfl (fun W6 hW6 => ?_)
   have hs6 : w4.heap.size ≤ W6.heap.size := (hW5.trans hW6).1.size
   unfold Oper.wp
   go_simp
   refine ⟨KI.of ((Below.refl _ _).alloc (Nat.le_refl _) _), ?_⟩
   refine anyR_one 19 rfl (by kernel_rfl) rfl (fun W7 hW7 => ?_)
   have hwr : Wr W6.heap.size 9 26 W7 := hW7.2.1 _ ⟨_, heap_alloc_new W6 _, rfl⟩
   have hst := KI.store (n₁ := w4.heap.size) [.int .u8 z1, .int .u16 (wat zs 4), .bool (decide (16384 ≤ wat zs 6)), .int .u8 z8, .int .u8 z9, .int .u32 (wat4 zs 12), .int .u32 (wat4 zs 16), .slice none 0 0, .slice none 0 0] hs6 hwr rfl
   obtain ⟨cur, hcur, hsz⟩ := hwr
   have k7 := block_cell hcur
   have f7 := block_frozen hcur
   have HS := hide hst
   clear hst
   unfold Oper.wp
   go_simp
   generalize hV : ((((((((W7.setCell ⟨W6.heap.size, 0, none⟩ _).setCell ⟨W6.heap.size, 1, none⟩ _).setCell ⟨W6.heap.size, 2, none⟩ _).setCell ⟨W6.heap.size, 3, none⟩ _).setCell ⟨W6.heap.size, 4, none⟩ _).setCell ⟨W6.heap.size, 5, none⟩ _).setCell ⟨W6.heap.size, 6, none⟩ _).setCell ⟨W6.heap.size, 7, none⟩ _).setCell ⟨W6.heap.size, 8, none⟩ _ = V
   have hV9 : V = putRow W7 W6.heap.size 0 [.int .u8 z1, .int .u16 (wat zs 4), .bool (decide (16384 ≤ wat zs 6)), .int .u8 z8, .int .u8 z9, .int .u32 (wat4 zs 12), .int .u32 (wat4 zs 16), .slice none 0 0, .slice none 0 0] := hV.symm
   have hst := HS.out
   rw [← hV9] at hst
   clear hV hV9 HS k7 f7
   refine ⟨hst.1, anyR_done (by kernel_rfl) (fun W8 hW8 => ?_)⟩
   have p8 := hW8.2.2 _ hst.2
   have hwW8 : Below w.heap.size w W8 := hbel W8 (((hW6.trans (KI.of ((Below.refl _ _).alloc (Nat.le_refl _) _))).trans hW7).trans (hst.1.trans hW8))
   have hq8 : w.heap.size < W6.heap.size := by omega
   have pw8 : Wr w.heap.size 9 26 W8 := hW8.2.1 _ (hst.1.2.1 _ (hW7.2.1 _ ((KI.of ((Below.refl W6.heap.size W6).alloc (Nat.le_refl _) _) : KI w4.heap.size 26 9 (List.toArray [.int .u8 z1, .int .u16 (wat zs 4), .bool (decide (16384 ≤ wat zs 6)), .int .u8 z8, .int .u8 z9, .int .u32 (wat4 zs 12), .int .u32 (wat4 zs 16), .slice none 0 0, .slice none 0 0]) W6 _).2.1 _ (hW6.2.1 _ (hW5.2.1 _ ⟨_, (hL4.block w.heap.size (by omega)).trans p1, rfl⟩)))))
   generalize W6.heap.size = pb at *
   clear hbel hr1 e1 e8 e9 hst hW7 hW6 hs6 hcur hsz hW8
   have hs8 := (Array.getElem?_eq_some_iff.1 p8).1
   have P8 := block_cell p8
   go_wp2_with fail
   have hR8 := (((hI.below hwW8).take k (by omega)).cutAt 20 (by omega)).drew 1
   obtain ⟨v9, W9, hrun9, hown9, hgr9⟩ := run_app (P := Tryz.prog) W8.drew 24 24 5 (pb + 1) i0 Tryz.underlying24 hi hz0 hz1 hz2 (.slice none 0 0) [] (World.ownsRow_nil _ _ _ _) w.heap.size _ ((zs.take k).drop 20) hR8 (by simp; omega) hs8
   have hl9 : Later W8 W9 := Later.trans (Later.drew W8) ((Below.refl _ W8.drew).grown hgr9 (Nat.le_refl _) (fun _ e => by cases e))
   have hO9 := Ow.of_row hown9
   rw [List.nil_append] at hO9
   obtain ⟨a9, cap9, rfl, hq9, hm9⟩ := hO9.slice
   clear hown9 hgr9 hR8
   have p9 := (hl9.block pb hs8).trans p8
   have P9 := block_cell p9
   have F9 := block_frozen p9
   have hLo : Hid (((zs.take k).drop 20).length = k - 20) := by show _ = _; simp; omega
   rw [hLo.out] at hrun9 hO9
   have i20 : (20 : Int) ≤ k := by omega
   go_region_law (refine step_run rfl (.tmp 92) (.tmp 95) 24 rfl _ _ rfl rfl _ W9 hrun9 ?_)
   clear hrun9 P8 P9 F9
   generalize (if cap = 20 then some (⟨b, off, none⟩ : Addr) else some ⟨b, off + 20, none⟩) = ad20 at *
   have p10 : (W9.setCell ⟨pb, 7, none⟩ (.slice a9 (k - 20) cap9)).heap[pb]? = some (.cells (List.toArray [.int .u8 z1, .int .u16 (wat zs 4), .bool (decide (16384 ≤ wat zs 6)), .int .u8 z8, .int .u8 z9, .int .u32 (wat4 zs 12), .int .u32 (wat4 zs 16), .slice a9 (k - 20) cap9, .slice none 0 0]) 26 (0, 0)) := heap_set1 p9 7 (.slice a9 (k - 20) cap9)
   have hE9 : But (fun b => b = pb) W9 (W9.setCell ⟨pb, 7, none⟩ (.slice a9 (k - 20) cap9)) := (But.refl (fun b => b = pb) W9).setCell (p := ⟨pb, 7, none⟩) (E := fun b => b = pb) rfl _
   have hO10 := hO9.but hE9 (fun b h e => by omega)
   have hw10 : Below w.heap.size w _ := (hwW8.trans (hl9.mono hwW8.size)).setCell (p := ⟨pb, 7, none⟩) (Nat.le_of_lt hq8) (.slice a9 (k - 20) cap9)
   have pw10 : Wr w.heap.size 9 26 (W9.setCell ⟨pb, 7, none⟩ (.slice a9 (k - 20) cap9)) := by
    obtain ⟨c, h1, h2⟩ := pw8.later hl9
    exact ⟨c, (hE9.block _ (Array.getElem?_eq_some_iff.1 h1).1 (by omega)).trans h1, h2⟩
   generalize W9.setCell ⟨pb, 7, none⟩ (.slice a9 (k - 20) cap9) = W10 at *
   clear hO9 p9 hE9 hl9 hwW8 pw8
   have hs10 := (Array.getElem?_eq_some_iff.1 p10).1
   have P10 := block_cell p10
   go_wp2_with fail
   have hR10 := (((hI.below hw10).take zs.length (by omega)).cutAt k (by omega)).drew 1
   obtain ⟨v11, W11, hrun11, hown11, hgr11⟩ := run_app (P := Tryz.prog) W10.drew 24 24 5 (pb + 1) i0 Tryz.underlying24 hi hz0 hz1 hz2 (.slice none 0 0) [] (World.ownsRow_nil _ _ _ _) w.heap.size _ ((zs.take zs.length).drop k) hR10 (by simp; omega) hs10
   have hl11 : Later W10 W11 := Later.trans (Later.drew W10) ((Below.refl _ W10.drew).grown hgr11 (Nat.le_refl _) (fun _ e => by cases e))
   have hO11 := Ow.of_row hown11
   rw [List.nil_append] at hO11
   obtain ⟨a11, cap11, rfl, hq11, hm11⟩ := hO11.slice
   clear hown11 hgr11 hR10
   have p11 := (hl11.block pb hs10).trans p10
   have P11 := block_cell p11
   have F11 := block_frozen p11
   have hLd : Hid (((zs.take zs.length).drop k).length = zs.length - k) := by show _ = _; simp; try omega
   rw [hLd.out] at hrun11 hO11
   have ikn : (k : Int) ≤ zs.length := by omega
   have inc : zs.length ≤ cap := by omega
   have inc2 : (zs.length : Int) ≤ cap := by omega
   go_region_law (refine step_run rfl (.tmp 99) (.tmp 103) 24 rfl _ _ rfl rfl _ W11 hrun11 ?_)
   clear hrun11 P10 P11 F11
   generalize (if cap = k then some (⟨b, off, none⟩ : Addr) else some ⟨b, off + k, none⟩) = adk at *
   have p12 : (W11.setCell ⟨pb, 8, none⟩ (.slice a11 (zs.length - k) cap11)).heap[pb]? = some (.cells (List.toArray [.int .u8 z1, .int .u16 (wat zs 4), .bool (decide (16384 ≤ wat zs 6)), .int .u8 z8, .int .u8 z9, .int .u32 (wat4 zs 12), .int .u32 (wat4 zs 16), .slice a9 (k - 20) cap9, .slice a11 (zs.length - k) cap11]) 26 (0, 0)) := heap_set1 p11 8 (.slice a11 (zs.length - k) cap11)
   have hE11 : But (fun b => b = pb) W11 (W11.setCell ⟨pb, 8, none⟩ (.slice a11 (zs.length - k) cap11)) := (But.refl (fun b => b = pb) W11).setCell (p := ⟨pb, 8, none⟩) (E := fun b => b = pb) rfl _
   have hO12 := hO11.but hE11 (fun b h e => by omega)
   have hO13 := (hO10.below hl11 (Nat.le_refl _)).but hE11 (fun b h e => by omega)
   have hw12 : Below w.heap.size w _ := (hw10.trans (hl11.mono hw10.size)).setCell (p := ⟨pb, 8, none⟩) (Nat.le_of_lt hq8) (.slice a11 (zs.length - k) cap11)
   have pw12 : Wr w.heap.size 9 26 (W11.setCell ⟨pb, 8, none⟩ (.slice a11 (zs.length - k) cap11)) := by
    obtain ⟨c, h1, h2⟩ := pw10.later hl11
    exact ⟨c, (hE11.block _ (Array.getElem?_eq_some_iff.1 h1).1 (by omega)).trans h1, h2⟩
   generalize W11.setCell ⟨pb, 8, none⟩ (.slice a11 (zs.length - k) cap11) = W12 at *
   clear hO11 p11 hE11 hl11 hw10 pw10 hO10
   have P12 := block_cell p12
   obtain ⟨cur, hcur, hsz⟩ := pw12
   have C12 := block_cell hcur
   have F12 := block_frozen hcur
   go_wp2_with fail
   generalize hV : ((((((((W12.setCell ⟨w.heap.size, 0, none⟩ _).setCell ⟨w.heap.size, 1, none⟩ _).setCell ⟨w.heap.size, 2, none⟩ _).setCell ⟨w.heap.size, 3, none⟩ _).setCell ⟨w.heap.size, 4, none⟩ _).setCell ⟨w.heap.size, 5, none⟩ _).setCell ⟨w.heap.size, 6, none⟩ _).setCell ⟨w.heap.size, 7, none⟩ _).setCell ⟨w.heap.size, 8, none⟩ _ = V
   have hV9 : V = putRow W12 w.heap.size 0 [.int .u8 z1, .int .u16 (wat zs 4), .bool (decide (16384 ≤ wat zs 6)), .int .u8 z8, .int .u8 z9, .int .u32 (wat4 zs 12), .int .u32 (wat4 zs 16), .slice a9 (k - 20) cap9, .slice a11 (zs.length - k) cap11] := hV.symm
   have hb13 : But (fun b => b = w.heap.size) W12 V := by rw [hV9]; exact putRow_but (E := fun b => b = w.heap.size) (n := w.heap.size) rfl _ _ _ _ (But.refl _ _)
   have p13 := putRow_all [.int .u8 z1, .int .u16 (wat zs 4), .bool (decide (16384 ≤ wat zs 6)), .int .u8 z8, .int .u8 z9, .int .u32 (wat4 zs 12), .int .u32 (wat4 zs 16), .slice a9 (k - 20) cap9, .slice a11 (zs.length - k) cap11] hcur (by simpa using hsz)
   rw [← hV9] at p13
   have hd : decide (16384 ≤ wat zs 6 % 32768) = decide (16384 ≤ wat zs 6) := by rw [Int.emod_eq_of_lt (by omega) (by omega)]
   have hpk : pkt zs (.slice a9 (k - 20) cap9) (.slice a11 (zs.length - k) cap11) = .agg (List.toArray [.int .u8 z1, .int .u16 (wat zs 4), .bool (decide (16384 ≤ wat zs 6)), .int .u8 z8, .int .u8 z9, .int .u32 (wat4 zs 12), .int .u32 (wat4 zs 16), .slice a9 (k - 20) cap9, .slice a11 (zs.length - k) cap11]) := by unfold pkt; rw [G1.out, G8.out, G9.out, hd]
   refine bodyPost_ret (v := .tuple #[pkt zs (.slice a9 (k - 20) cap9) (.slice a11 (zs.length - k) cap11), .int .i64 0]) (by rw [hpk]; exact res_rread _ w.heap.size 0 _ _ _ _ _ _ _ _ _ V rfl rfl p13) rfl ⟨hw12.trans (hb13.below hw12.size (fun j h e => by omega)), .inr ⟨HR.out, _, _, rfl, ?_, ?_⟩⟩
   ·rw [HK.out, Int.toNat_natCast]
    exact (hO13.but hb13 (fun b h e => by omega)).mono (by omega)
   ·rw [HK.out, HN.out, Int.toNat_natCast, Int.toNat_natCast]
    exact (hO12.but hb13 (fun b h e => by omega)).mono (by omega)

  ·go_wp2_with fail
   refine (rgood_any _ (zs.take k) (hB.take _) (by simp; omega) w2 (((hI.take k (by omega)).below (hb1.trans (hl2.mono (by omega)))).mono (by omega))).mono ?_
   rintro e w3 ⟨rfl, hl3⟩
   have hL3 : Later _ w3 := hl2.trans hl3
   have z3 := hL3.size
   cases hg : (Mt.cks (zs.take k) == 0)
   ·have hc5 : chk zs = 5 := by unfold chk; rw [HK.out, Int.toNat_natCast, if_pos (by simpa using hg)]
    have HR : Hid (rde true zs = 5) := by show _ = _; unfold rde; rw [hm0.out, if_neg (by simp), if_neg (by simp [ral]; omega), hc5]; rfl
    clear hc5
    have pk := ((hL3).block w.heap.size (by omega)).trans p1
    have Pk := block_cell pk
    have Fk := block_frozen pk
    go_wp2_with fail
    clear Pk Fk
    generalize hV : ((((((((w3.setCell ⟨w.heap.size, 0, none⟩ _).setCell ⟨w.heap.size, 1, none⟩ _).setCell ⟨w.heap.size, 2, none⟩ _).setCell ⟨w.heap.size, 3, none⟩ _).setCell ⟨w.heap.size, 4, none⟩ _).setCell ⟨w.heap.size, 5, none⟩ _).setCell ⟨w.heap.size, 6, none⟩ _).setCell ⟨w.heap.size, 7, none⟩ _).setCell ⟨w.heap.size, 8, none⟩ _ = V
    have hV9 : V = putRow w3 w.heap.size 0 zc := hV.symm
    have hb8 : But (fun b => b = w.heap.size) w3 V := by rw [hV9]; exact putRow_but (E := fun b => b = w.heap.size) (n := w.heap.size) rfl _ _ _ _ (But.refl _ _)
    have p8 := putRow_all zc pk rfl
    rw [← hV9] at p8
    exact rexit _ w.heap.size 5 _ rfl rfl p8 ⟨(hb1.trans ((hL3).mono (by omega))).trans (hb8.below (Nat.le_trans (by omega) (hL3).size) (fun j h e => by omega)), .inl (by rw [HR.out]; exact ⟨by omega, rfl⟩)⟩

   have hg0 : Mt.cks (zs.take k) = 0 := by simpa using hg
   have Hg := hide hg0
   clear hg hg0
   go_wp2_with fail
   refine (rget16_rd _ zs hB 6 (by omega) hl w3 (hI.below (hb1.trans (hL3.mono (by omega))))).mono ?_
   rintro e w4 ⟨rfl, hl4'⟩
   have hL4 : Later _ w4 := hL3.trans hl4'
   have z4 := hL4.size
   have hff := wat_bd hB 6
   by_cases h7 : wat zs 6 % 16384 ≠ 0
   ·have t7 : (wat zs 6 % 16384 != 0) = true := by simpa using h7
    have hc5 : chk zs = 7 := by unfold chk; rw [HK.out, Int.toNat_natCast, if_neg (by simp [Hg.out]), if_pos h7]
    have HR : Hid (rde true zs = 7) := by show _ = _; unfold rde; rw [hm0.out, if_neg (by simp), if_neg (by simp [ral]; omega), hc5]; rfl
    clear hc5
    have pk := ((hL4).block w.heap.size (by omega)).trans p1
    have Pk := block_cell pk
    have Fk := block_frozen pk
    go_wp2_with fail
    clear Pk Fk
    generalize hV : ((((((((w4.setCell ⟨w.heap.size, 0, none⟩ _).setCell ⟨w.heap.size, 1, none⟩ _).setCell ⟨w.heap.size, 2, none⟩ _).setCell ⟨w.heap.size, 3, none⟩ _).setCell ⟨w.heap.size, 4, none⟩ _).setCell ⟨w.heap.size, 5, none⟩ _).setCell ⟨w.heap.size, 6, none⟩ _).setCell ⟨w.heap.size, 7, none⟩ _).setCell ⟨w.heap.size, 8, none⟩ _ = V
    have hV9 : V = putRow w4 w.heap.size 0 zc := hV.symm
    have hb8 : But (fun b => b = w.heap.size) w4 V := by rw [hV9]; exact putRow_but (E := fun b => b = w.heap.size) (n := w.heap.size) rfl _ _ _ _ (But.refl _ _)
    have p8 := putRow_all zc pk rfl
    rw [← hV9] at p8
    exact rexit _ w.heap.size 7 _ rfl rfl p8 ⟨(hb1.trans ((hL4).mono (by omega))).trans (hb8.below (Nat.le_trans (by omega) (hL4).size) (fun j h e => by omega)), .inl (by rw [HR.out]; exact ⟨by omega, rfl⟩)⟩

   have t7 : (wat zs 6 % 16384 != 0) = false := by simpa using h7
   by_cases h8 : 32768 ≤ wat zs 6
   ·have hc5 : chk zs = 4 := by unfold chk; rw [HK.out, Int.toNat_natCast, if_neg (by simp [Hg.out]), if_neg h7, if_pos h8]
    have HR : Hid (rde true zs = 4) := by show _ = _; unfold rde; rw [hm0.out, if_neg (by simp), if_neg (by simp [ral]; omega), hc5]; rfl
    clear hc5
    have pk := ((hL4).block w.heap.size (by omega)).trans p1
    have Pk := block_cell pk
    have Fk := block_frozen pk
    go_wp2_with fail
    clear Pk Fk
    generalize hV : ((((((((w4.setCell ⟨w.heap.size, 0, none⟩ _).setCell ⟨w.heap.size, 1, none⟩ _).setCell ⟨w.heap.size, 2, none⟩ _).setCell ⟨w.heap.size, 3, none⟩ _).setCell ⟨w.heap.size, 4, none⟩ _).setCell ⟨w.heap.size, 5, none⟩ _).setCell ⟨w.heap.size, 6, none⟩ _).setCell ⟨w.heap.size, 7, none⟩ _).setCell ⟨w.heap.size, 8, none⟩ _ = V
    have hV9 : V = putRow w4 w.heap.size 0 zc := hV.symm
    have hb8 : But (fun b => b = w.heap.size) w4 V := by rw [hV9]; exact putRow_but (E := fun b => b = w.heap.size) (n := w.heap.size) rfl _ _ _ _ (But.refl _ _)
    have p8 := putRow_all zc pk rfl
    rw [← hV9] at p8
    exact rexit _ w.heap.size 4 _ rfl rfl p8 ⟨(hb1.trans ((hL4).mono (by omega))).trans (hb8.below (Nat.le_trans (by omega) (hL4).size) (fun j h e => by omega)), .inl (by rw [HR.out]; exact ⟨by omega, rfl⟩)⟩

   have hc0 : Hid (chk zs = 0) := by show _ = _; unfold chk; rw [HK.out, Int.toNat_natCast, if_neg (by simp [Hg.out]), if_neg h7, if_neg h8]

   by_cases h9 : wat zs 2 - (k : Int) < 8
   ·have HR : Hid (rde true zs = 3) := by show _ = _; unfold rde; rw [hm0.out, if_neg (by simp), if_neg (by simp [ral]; omega), hc0.out, if_neg (by simp), HK.out, if_pos ⟨rfl, by simp [ral]; omega⟩]
    have pk := ((hL4).block w.heap.size (by omega)).trans p1
    have Pk := block_cell pk
    have Fk := block_frozen pk
    go_wp2_with fail
    clear Pk Fk
    generalize hV : ((((((((w4.setCell ⟨w.heap.size, 0, none⟩ _).setCell ⟨w.heap.size, 1, none⟩ _).setCell ⟨w.heap.size, 2, none⟩ _).setCell ⟨w.heap.size, 3, none⟩ _).setCell ⟨w.heap.size, 4, none⟩ _).setCell ⟨w.heap.size, 5, none⟩ _).setCell ⟨w.heap.size, 6, none⟩ _).setCell ⟨w.heap.size, 7, none⟩ _).setCell ⟨w.heap.size, 8, none⟩ _ = V
    have hV9 : V = putRow w4 w.heap.size 0 zc := hV.symm
    have hb8 : But (fun b => b = w.heap.size) w4 V := by rw [hV9]; exact putRow_but (E := fun b => b = w.heap.size) (n := w.heap.size) rfl _ _ _ _ (But.refl _ _)
    have p8 := putRow_all zc pk rfl
    rw [← hV9] at p8
    exact rexit _ w.heap.size 3 _ rfl rfl p8 ⟨(hb1.trans ((hL4).mono (by omega))).trans (hb8.below (Nat.le_trans (by omega) (hL4).size) (fun j h e => by omega)), .inl (by rw [HR.out]; exact ⟨by omega, rfl⟩)⟩

   have HR : Hid (rde true zs = 0) := by show _ = _; unfold rde; rw [hm0.out, if_neg (by simp), if_neg (by simp [ral]; omega), hc0.out, if_neg (by simp), HK.out, if_neg (by simp [ral]; omega)]

   go_wp2_with fail
   obtain ⟨n, hn⟩ := Int.eq_ofNat_of_zero_le (show 0 ≤ wat zs 2 by omega)
   have hkn : 20 ≤ k ∧ k ≤ n ∧ n ≤ zs.length := by omega
   have HN : Hid (ral true zs = n) := by show _ = _; simp [ral]; omega
   have Hn := hide hn
   rw [hn]
   clear hn

   have d1 := hc 1 (by omega)
   have d8 := hc 8 (by omega)
   have d9 := hc 9 (by omega)
   have hbw4 := hb1.trans (hL4.mono (by omega))
   generalize gz1 : zs[1]?.getD 0 = z1 at *
   generalize gz8 : zs[8]?.getD 0 = z8 at *
   generalize gz9 : zs[9]?.getD 0 = z9 at *
   have G1 := hide gz1
   have G8 := hide gz8
   have G9 := hide gz9
   clear gz1 gz8 gz9
   have i1 : (1 : Int) < zs.length := by omega
   have i8 : (8 : Int) < zs.length := by omega
   have i9 : (9 : Int) < zs.length := by omega
   refine anyR_begin (R := KI w4.heap.size 26 9 (List.toArray [.int .u8 z1, .int .u16 (wat zs 4), .bool (decide (16384 ≤ wat zs 6)), .int .u8 z8, .int .u8 z9, .int .u32 (wat4 zs 12), .int .u32 (wat4 zs 16), .slice none 0 0, .slice none 0 0])) (KI.pre _ _ _ _) (fun w => KI.of (Later.drew w)) 20 rfl (by kernel_rfl) (fun W5 hW5 => ?_)
   have hbel : ∀ w1, KI w4.heap.size 26 9 (List.toArray [.int .u8 z1, .int .u16 (wat zs 4), .bool (decide (16384 ≤ wat zs 6)), .int .u8 z8, .int .u8 z9, .int .u32 (wat4 zs 12), .int .u32 (wat4 zs 16), .slice none 0 0, .slice none 0 0]) W5 w1 → Below w.heap.size w w1 := fun w1 h => hbw4.trans (((hW5.trans h).1.below (Nat.le_refl _) (fun k hk e => by omega)).mono (by omega))
   have hr1 : ∀ w1, KI w4.heap.size 26 9 (List.toArray [.int .u8 z1, .int .u16 (wat zs 4), .bool (decide (16384 ≤ wat zs 6)), .int .u8 z8, .int .u8 z9, .int .u32 (wat4 zs 12), .int .u32 (wat4 zs 16), .slice none 0 0, .slice none 0 0]) W5 w1 → Rd w.heap.size w1 (.slice (some ⟨b, off, none⟩) zs.length cap) zs := fun w1 h => hI.below (hbel w1 h)
   have e1 : ∀ w1, KI w4.heap.size 26 9 (List.toArray [.int .u8 z1, .int .u16 (wat zs 4), .bool (decide (16384 ≤ wat zs 6)), .int .u8 z8, .int .u8 z9, .int .u32 (wat4 zs 12), .int .u32 (wat4 zs 16), .slice none 0 0, .slice none 0 0]) W5 w1 → w1.cell? ⟨b, off + 1, none⟩ = some (.int .u8 z1) := fun w1 h => ((hbel w1 h).cell (p := ⟨b, off + 1, none⟩) hb).trans d1
   have e8 : ∀ w1, KI w4.heap.size 26 9 (List.toArray [.int .u8 z1, .int .u16 (wat zs 4), .bool (decide (16384 ≤ wat zs 6)), .int .u8 z8, .int .u8 z9, .int .u32 (wat4 zs 12), .int .u32 (wat4 zs 16), .slice none 0 0, .slice none 0 0]) W5 w1 → w1.cell? ⟨b, off + 8, none⟩ = some (.int .u8 z8) := fun w1 h => ((hbel w1 h).cell (p := ⟨b, off + 8, none⟩) hb).trans d8
   have e9 : ∀ w1, KI w4.heap.size 26 9 (List.toArray [.int .u8 z1, .int .u16 (wat zs 4), .bool (decide (16384 ≤ wat zs 6)), .int .u8 z8, .int .u8 z9, .int .u32 (wat4 zs 12), .int .u32 (wat4 zs 16), .slice none 0 0, .slice none 0 0]) W5 w1 → w1.cell? ⟨b, off + 9, none⟩ = some (.int .u8 z9) := fun w1 h => ((hbel w1 h).cell (p := ⟨b, off + 9, none⟩) hb).trans d9
   clear d1 d8 d9
   refine anyR_val (KI.pre _ _ _ _) 0 rfl (by kernel_rfl) (by kernel_rfl) (by kernel_rfl) (fun _ _ _ _ h => h) rfl ?_; apply Exists.intro; refine ⟨fun w1 hw1 => ?_, ?_⟩; (· (go_simp; rfl)); simp only [Act.put, sA, sB, sC]
   refine anyR_val (KI.pre _ _ _ _) 1 rfl (by kernel_rfl) (by kernel_rfl) (by kernel_rfl) (fun _ _ _ _ h => h) rfl ?_; apply Exists.intro; refine ⟨fun w1 hw1 => ?_, ?_⟩; (· (go_simp; rfl)); simp only [Act.put, sA, sB, sC]
   refine anyR_val (KI.pre _ _ _ _) 2 rfl (by kernel_rfl) (by kernel_rfl) (by kernel_rfl) (fun _ _ _ _ h => h) rfl ?_; apply Exists.intro; refine ⟨fun w1 hw1 => ?_, ?_⟩; (· (go_simp; rfl)); simp only [Act.put, sA, sB, sC]
   refine anyR_val (KI.pre _ _ _ _) 3 rfl (by kernel_rfl) (by kernel_rfl) (by kernel_rfl) (fun _ _ _ _ h => h) rfl ?_; apply Exists.intro; refine ⟨fun w1 hw1 => ?_, ?_⟩; (· (go_simp; rfl)); simp only [Act.put, sA, sB, sC]
   refine anyR_take (KI.pre _ _ _ _) 4 (.int .u16 (wat zs 4)) rfl (by kernel_rfl) (by kernel_rfl) (by kernel_rfl) (fun _ _ _ h => h) rfl (fun w1 hw1 => goes_call 62 #[.slice (some ⟨b, off, none⟩) zs.length cap, .int .i64 4] (by go_simp) ?_) ?_
   ·exact (rget16_rd _ zs hB 4 (by omega) hl w1 (hr1 w1 hw1)).mono fun e w' ⟨he, hw⟩ => ⟨he, KI.of hw⟩
   simp only [Act.put, sA, sB, sC]
   refine anyR_val (KI.pre _ _ _ _) 5 rfl (by kernel_rfl) (by kernel_rfl) (by kernel_rfl) (fun _ _ _ _ h => h) rfl ?_; apply Exists.intro; refine ⟨fun w1 hw1 => ?_, ?_⟩; (· (go_simp; rfl)); simp only [Act.put, sA, sB, sC]
   refine anyR_val (KI.pre _ _ _ _) 6 rfl (by kernel_rfl) (by kernel_rfl) (by kernel_rfl) (fun _ _ _ _ h => h) rfl ?_; apply Exists.intro; refine ⟨fun w1 hw1 => ?_, ?_⟩; (· (go_simp; rfl)); simp only [Act.put, sA, sB, sC]
   refine anyR_val (KI.pre _ _ _ _) 7 rfl (by kernel_rfl) (by kernel_rfl) (by kernel_rfl) (fun _ _ _ _ h => h) rfl ?_; apply Exists.intro; refine ⟨fun w1 hw1 => ?_, ?_⟩; (· (go_simp; rfl)); simp only [Act.put, sA, sB, sC]
   refine anyR_val (KI.pre _ _ _ _) 8 rfl (by kernel_rfl) (by kernel_rfl) (by kernel_rfl) (fun _ _ _ _ h => h) rfl ?_; apply Exists.intro; refine ⟨fun w1 hw1 => ?_, ?_⟩; (· (go_simp; rfl)); simp only [Act.put, sA, sB, sC]
   refine anyR_val (KI.pre _ _ _ _) 9 rfl (by kernel_rfl) (by kernel_rfl) (by kernel_rfl) (fun _ _ _ _ h => h) rfl ?_; apply Exists.intro; refine ⟨fun w1 hw1 => ?_, ?_⟩; (· (go_simp; rfl)); simp only [Act.put, sA, sB, sC]
   refine anyR_val (KI.pre _ _ _ _) 10 rfl (by kernel_rfl) (by kernel_rfl) (by kernel_rfl) (fun _ _ _ _ h => h) rfl ?_; apply Exists.intro; refine ⟨fun w1 hw1 => ?_, ?_⟩; (· (go_simp; rfl)); simp only [Act.put, sA, sB, sC]
   refine anyR_val (KI.pre _ _ _ _) 11 rfl (by kernel_rfl) (by kernel_rfl) (by kernel_rfl) (fun _ _ _ _ h => h) rfl ?_; apply Exists.intro; refine ⟨fun w1 hw1 => ?_, ?_⟩; (· (go_simp; rfl)); simp only [Act.put, sA, sB, sC]
   refine anyR_val (KI.pre _ _ _ _) 12 rfl (by kernel_rfl) (by kernel_rfl) (by kernel_rfl) (fun _ _ _ _ h => h) rfl ?_; apply Exists.intro; refine ⟨fun w1 hw1 => ?_, ?_⟩; (· (go_simp; rfl)); simp only [Act.put, sA, sB, sC]
   refine anyR_val (KI.pre _ _ _ _) 13 rfl (by kernel_rfl) (by kernel_rfl) (by kernel_rfl) (fun _ _ _ _ h => h) rfl ?_; apply Exists.intro; refine ⟨fun w1 hw1 => ?_, ?_⟩; (· (go_simp; rfl)); simp only [Act.put, sA, sB, sC]
   refine anyR_take (KI.pre _ _ _ _) 14 (.int .u32 (wat4 zs 12)) rfl (by kernel_rfl) (by kernel_rfl) (by kernel_rfl) (fun _ _ _ h => h) rfl (fun w1 hw1 => goes_call 36 #[.slice (some ⟨b, off, none⟩) zs.length cap, .int .i64 12] (by go_simp) ?_) ?_
   ·exact (rget32_rd _ zs hB 12 (by omega) hl w1 (hr1 w1 hw1)).mono fun e w' ⟨he, hw⟩ => ⟨he, KI.of hw⟩
   simp only [Act.put, sA, sB, sC]
   refine anyR_val (KI.pre _ _ _ _) 15 rfl (by kernel_rfl) (by kernel_rfl) (by kernel_rfl) (fun _ _ _ _ h => h) rfl ?_; apply Exists.intro; refine ⟨fun w1 hw1 => ?_, ?_⟩; (· (go_simp; rfl)); simp only [Act.put, sA, sB, sC]
   refine anyR_take (KI.pre _ _ _ _) 16 (.int .u32 (wat4 zs 16)) rfl (by kernel_rfl) (by kernel_rfl) (by kernel_rfl) (fun _ _ _ h => h) rfl (fun w1 hw1 => goes_call 36 #[.slice (some ⟨b, off, none⟩) zs.length cap, .int .i64 16] (by go_simp) ?_) ?_
   ·exact (rget32_rd _ zs hB 16 (by omega) hl w1 (hr1 w1 hw1)).mono fun e w' ⟨he, hw⟩ => ⟨he, KI.of hw⟩
   simp only [Act.put, sA, sB, sC]
   refine anyR_val (KI.pre _ _ _ _) 17 rfl (by kernel_rfl) (by kernel_rfl) (by kernel_rfl) (fun _ _ _ _ h => h) rfl ?_; apply Exists.intro; refine ⟨fun w1 hw1 => ?_, ?_⟩; (· (go_simp; rfl)); simp only [Act.put, sA, sB, sC]

   refine anyR_one 18 rfl (by kernel_rfl) rfl (fun W6 hW6 => ?_)
   have hs6 : w4.heap.size ≤ W6.heap.size := (hW5.trans hW6).1.size
   unfold Oper.wp
   go_simp
   refine ⟨KI.of ((Below.refl _ _).alloc (Nat.le_refl _) _), ?_⟩
   refine anyR_one 19 rfl (by kernel_rfl) rfl (fun W7 hW7 => ?_)
   have hwr : Wr W6.heap.size 9 26 W7 := hW7.2.1 _ ⟨_, heap_alloc_new W6 _, rfl⟩
   have hst := KI.store (n₁ := w4.heap.size) [.int .u8 z1, .int .u16 (wat zs 4), .bool (decide (16384 ≤ wat zs 6)), .int .u8 z8, .int .u8 z9, .int .u32 (wat4 zs 12), .int .u32 (wat4 zs 16), .slice none 0 0, .slice none 0 0] hs6 hwr rfl
   obtain ⟨cur, hcur, hsz⟩ := hwr
   have k7 := block_cell hcur
   have f7 := block_frozen hcur
   have HS := hide hst
   clear hst
   unfold Oper.wp
   go_simp
   generalize hV : ((((((((W7.setCell ⟨W6.heap.size, 0, none⟩ _).setCell ⟨W6.heap.size, 1, none⟩ _).setCell ⟨W6.heap.size, 2, none⟩ _).setCell ⟨W6.heap.size, 3, none⟩ _).setCell ⟨W6.heap.size, 4, none⟩ _).setCell ⟨W6.heap.size, 5, none⟩ _).setCell ⟨W6.heap.size, 6, none⟩ _).setCell ⟨W6.heap.size, 7, none⟩ _).setCell ⟨W6.heap.size, 8, none⟩ _ = V
   have hV9 : V = putRow W7 W6.heap.size 0 [.int .u8 z1, .int .u16 (wat zs 4), .bool (decide (16384 ≤ wat zs 6)), .int .u8 z8, .int .u8 z9, .int .u32 (wat4 zs 12), .int .u32 (wat4 zs 16), .slice none 0 0, .slice none 0 0] := hV.symm
   have hst := HS.out
   rw [← hV9] at hst
   clear hV hV9 HS k7 f7
   refine ⟨hst.1, anyR_done (by kernel_rfl) (fun W8 hW8 => ?_)⟩
   have p8 := hW8.2.2 _ hst.2
   have hwW8 : Below w.heap.size w W8 := hbel W8 (((hW6.trans (KI.of ((Below.refl _ _).alloc (Nat.le_refl _) _))).trans hW7).trans (hst.1.trans hW8))
   have hq8 : w.heap.size < W6.heap.size := by omega
   have pw8 : Wr w.heap.size 9 26 W8 := hW8.2.1 _ (hst.1.2.1 _ (hW7.2.1 _ ((KI.of ((Below.refl W6.heap.size W6).alloc (Nat.le_refl _) _) : KI w4.heap.size 26 9 (List.toArray [.int .u8 z1, .int .u16 (wat zs 4), .bool (decide (16384 ≤ wat zs 6)), .int .u8 z8, .int .u8 z9, .int .u32 (wat4 zs 12), .int .u32 (wat4 zs 16), .slice none 0 0, .slice none 0 0]) W6 _).2.1 _ (hW6.2.1 _ (hW5.2.1 _ ⟨_, (hL4.block w.heap.size (by omega)).trans p1, rfl⟩)))))
   generalize W6.heap.size = pb at *
   clear hbel hr1 e1 e8 e9 hst hW7 hW6 hs6 hcur hsz hW8
   have hs8 := (Array.getElem?_eq_some_iff.1 p8).1
   have P8 := block_cell p8
   go_wp2_with fail
   have hR8 := (((hI.below hwW8).take k (by omega)).cutAt 20 (by omega)).drew 1
   obtain ⟨v9, W9, hrun9, hown9, hgr9⟩ := run_app (P := Tryz.prog) W8.drew 24 24 5 (pb + 1) i0 Tryz.underlying24 hi hz0 hz1 hz2 (.slice none 0 0) [] (World.ownsRow_nil _ _ _ _) w.heap.size _ ((zs.take k).drop 20) hR8 (by simp; omega) hs8
   have hl9 : Later W8 W9 := Later.trans (Later.drew W8) ((Below.refl _ W8.drew).grown hgr9 (Nat.le_refl _) (fun _ e => by cases e))
   have hO9 := Ow.of_row hown9
   rw [List.nil_append] at hO9
   obtain ⟨a9, cap9, rfl, hq9, hm9⟩ := hO9.slice
   clear hown9 hgr9 hR8
   have p9 := (hl9.block pb hs8).trans p8
   have P9 := block_cell p9
   have F9 := block_frozen p9
   have hLo : Hid (((zs.take k).drop 20).length = k - 20) := by show _ = _; simp; omega
   rw [hLo.out] at hrun9 hO9
   have i20 : (20 : Int) ≤ k := by omega
   go_region_law (refine step_run rfl (.tmp 92) (.tmp 95) 24 rfl _ _ rfl rfl _ W9 hrun9 ?_)
   clear hrun9 P8 P9 F9
   generalize (if cap = 20 then some (⟨b, off, none⟩ : Addr) else some ⟨b, off + 20, none⟩) = ad20 at *
   have p10 : (W9.setCell ⟨pb, 7, none⟩ (.slice a9 (k - 20) cap9)).heap[pb]? = some (.cells (List.toArray [.int .u8 z1, .int .u16 (wat zs 4), .bool (decide (16384 ≤ wat zs 6)), .int .u8 z8, .int .u8 z9, .int .u32 (wat4 zs 12), .int .u32 (wat4 zs 16), .slice a9 (k - 20) cap9, .slice none 0 0]) 26 (0, 0)) := heap_set1 p9 7 (.slice a9 (k - 20) cap9)
   have hE9 : But (fun b => b = pb) W9 (W9.setCell ⟨pb, 7, none⟩ (.slice a9 (k - 20) cap9)) := (But.refl (fun b => b = pb) W9).setCell (p := ⟨pb, 7, none⟩) (E := fun b => b = pb) rfl _
   have hO10 := hO9.but hE9 (fun b h e => by omega)
   have hw10 : Below w.heap.size w _ := (hwW8.trans (hl9.mono hwW8.size)).setCell (p := ⟨pb, 7, none⟩) (Nat.le_of_lt hq8) (.slice a9 (k - 20) cap9)
   have pw10 : Wr w.heap.size 9 26 (W9.setCell ⟨pb, 7, none⟩ (.slice a9 (k - 20) cap9)) := by
    obtain ⟨c, h1, h2⟩ := pw8.later hl9
    exact ⟨c, (hE9.block _ (Array.getElem?_eq_some_iff.1 h1).1 (by omega)).trans h1, h2⟩
   generalize W9.setCell ⟨pb, 7, none⟩ (.slice a9 (k - 20) cap9) = W10 at *
   clear hO9 p9 hE9 hl9 hwW8 pw8
   have hs10 := (Array.getElem?_eq_some_iff.1 p10).1
   have P10 := block_cell p10
   go_wp2_with fail
   have hR10 := (((hI.below hw10).take n (by omega)).cutAt k (by omega)).drew 1
   obtain ⟨v11, W11, hrun11, hown11, hgr11⟩ := run_app (P := Tryz.prog) W10.drew 24 24 5 (pb + 1) i0 Tryz.underlying24 hi hz0 hz1 hz2 (.slice none 0 0) [] (World.ownsRow_nil _ _ _ _) w.heap.size _ ((zs.take n).drop k) hR10 (by simp; omega) hs10
   have hl11 : Later W10 W11 := Later.trans (Later.drew W10) ((Below.refl _ W10.drew).grown hgr11 (Nat.le_refl _) (fun _ e => by cases e))
   have hO11 := Ow.of_row hown11
   rw [List.nil_append] at hO11
   obtain ⟨a11, cap11, rfl, hq11, hm11⟩ := hO11.slice
   clear hown11 hgr11 hR10
   have p11 := (hl11.block pb hs10).trans p10
   have P11 := block_cell p11
   have F11 := block_frozen p11
   have hLd : Hid (((zs.take n).drop k).length = n - k) := by show _ = _; simp; try omega
   rw [hLd.out] at hrun11 hO11
   have ikn : (k : Int) ≤ n := by omega
   have inc : n ≤ cap := by omega
   have inc2 : (n : Int) ≤ cap := by omega
   go_region_law (refine step_run rfl (.tmp 99) (.tmp 103) 24 rfl _ _ rfl rfl _ W11 hrun11 ?_)
   clear hrun11 P10 P11 F11
   generalize (if cap = k then some (⟨b, off, none⟩ : Addr) else some ⟨b, off + k, none⟩) = adk at *
   have p12 : (W11.setCell ⟨pb, 8, none⟩ (.slice a11 (n - k) cap11)).heap[pb]? = some (.cells (List.toArray [.int .u8 z1, .int .u16 (wat zs 4), .bool (decide (16384 ≤ wat zs 6)), .int .u8 z8, .int .u8 z9, .int .u32 (wat4 zs 12), .int .u32 (wat4 zs 16), .slice a9 (k - 20) cap9, .slice a11 (n - k) cap11]) 26 (0, 0)) := heap_set1 p11 8 (.slice a11 (n - k) cap11)
   have hE11 : But (fun b => b = pb) W11 (W11.setCell ⟨pb, 8, none⟩ (.slice a11 (n - k) cap11)) := (But.refl (fun b => b = pb) W11).setCell (p := ⟨pb, 8, none⟩) (E := fun b => b = pb) rfl _
   have hO12 := hO11.but hE11 (fun b h e => by omega)
   have hO13 := (hO10.below hl11 (Nat.le_refl _)).but hE11 (fun b h e => by omega)
   have hw12 : Below w.heap.size w _ := (hw10.trans (hl11.mono hw10.size)).setCell (p := ⟨pb, 8, none⟩) (Nat.le_of_lt hq8) (.slice a11 (n - k) cap11)
   have pw12 : Wr w.heap.size 9 26 (W11.setCell ⟨pb, 8, none⟩ (.slice a11 (n - k) cap11)) := by
    obtain ⟨c, h1, h2⟩ := pw10.later hl11
    exact ⟨c, (hE11.block _ (Array.getElem?_eq_some_iff.1 h1).1 (by omega)).trans h1, h2⟩
   generalize W11.setCell ⟨pb, 8, none⟩ (.slice a11 (n - k) cap11) = W12 at *
   clear hO11 p11 hE11 hl11 hw10 pw10 hO10
   have P12 := block_cell p12
   obtain ⟨cur, hcur, hsz⟩ := pw12
   have C12 := block_cell hcur
   have F12 := block_frozen hcur
   go_wp2_with fail
   generalize hV : ((((((((W12.setCell ⟨w.heap.size, 0, none⟩ _).setCell ⟨w.heap.size, 1, none⟩ _).setCell ⟨w.heap.size, 2, none⟩ _).setCell ⟨w.heap.size, 3, none⟩ _).setCell ⟨w.heap.size, 4, none⟩ _).setCell ⟨w.heap.size, 5, none⟩ _).setCell ⟨w.heap.size, 6, none⟩ _).setCell ⟨w.heap.size, 7, none⟩ _).setCell ⟨w.heap.size, 8, none⟩ _ = V
   have hV9 : V = putRow W12 w.heap.size 0 [.int .u8 z1, .int .u16 (wat zs 4), .bool (decide (16384 ≤ wat zs 6)), .int .u8 z8, .int .u8 z9, .int .u32 (wat4 zs 12), .int .u32 (wat4 zs 16), .slice a9 (k - 20) cap9, .slice a11 (n - k) cap11] := hV.symm
   have hb13 : But (fun b => b = w.heap.size) W12 V := by rw [hV9]; exact putRow_but (E := fun b => b = w.heap.size) (n := w.heap.size) rfl _ _ _ _ (But.refl _ _)
   have p13 := putRow_all [.int .u8 z1, .int .u16 (wat zs 4), .bool (decide (16384 ≤ wat zs 6)), .int .u8 z8, .int .u8 z9, .int .u32 (wat4 zs 12), .int .u32 (wat4 zs 16), .slice a9 (k - 20) cap9, .slice a11 (n - k) cap11] hcur (by simpa using hsz)
   rw [← hV9] at p13
   have hd : decide (16384 ≤ wat zs 6 % 32768) = decide (16384 ≤ wat zs 6) := by rw [Int.emod_eq_of_lt (by omega) (by omega)]
   have hpk : pkt zs (.slice a9 (k - 20) cap9) (.slice a11 (n - k) cap11) = .agg (List.toArray [.int .u8 z1, .int .u16 (wat zs 4), .bool (decide (16384 ≤ wat zs 6)), .int .u8 z8, .int .u8 z9, .int .u32 (wat4 zs 12), .int .u32 (wat4 zs 16), .slice a9 (k - 20) cap9, .slice a11 (n - k) cap11]) := by unfold pkt; rw [G1.out, G8.out, G9.out, hd]
   refine bodyPost_ret (v := .tuple #[pkt zs (.slice a9 (k - 20) cap9) (.slice a11 (n - k) cap11), .int .i64 0]) (by rw [hpk]; exact res_rread _ w.heap.size 0 _ _ _ _ _ _ _ _ _ V rfl rfl p13) rfl ⟨hw12.trans (hb13.below hw12.size (fun j h e => by omega)), .inr ⟨HR.out, _, _, rfl, ?_, ?_⟩⟩
   ·rw [HK.out, Int.toNat_natCast]
    exact (hO13.but hb13 (fun b h e => by omega)).mono (by omega)
   ·rw [HK.out, HN.out, Int.toNat_natCast, Int.toNat_natCast]
    exact (hO12.but hb13 (fun b h e => by omega)).mono (by omega)
end Go.Proofs.YtghpakfjpdifaaaGreatDoor

/- The document's Parse and Quote. -/
namespace Go.Proofs.YtghpakfjpdifaaaGreatDoor
open Go.RowKit Go.Shelf
set_option maxRecDepth 100000
set_option linter.unusedVariables false
set_option linter.unusedSimpArgs false

set_option maxHeartbeats 1000000 in
theorem rquote_any (sv : Value) (zs : List Int) (w : World) (hB : Mt.By zs) (hl : zs.length ≤ 140737488355328) (hI : Rd w.heap.size w sv zs) :
  Calls Tryz.prog 61 #[sv] w fun e w' => Below w.heap.size w w' ∧
   ((rde true zs ≠ 0 ∧ e = .returned (.tuple #[.agg zc.toArray, .int .i64 (rde true zs)])) ∨
    (rde true zs = 0 ∧ ∃ so sd, e = .returned (.tuple #[pkt zs so sd, .int .i64 0]) ∧ Ow w.heap.size w' so ((zs.take (hl4 zs).toNat).drop 20) ∧ Ow w.heap.size w' sd ((zs.take (ral true zs).toNat).drop (hl4 zs).toNat))) := by
 obtain ⟨a, cap, rfl, hl1, hm1⟩ := hI.slice
 have hb1 : Below w.heap.size w (w.alloc (.cells zc.toArray 26)) := (Below.refl _ _).alloc (Nat.le_refl _) _
 have p1 := heap_alloc_new w (.cells zc.toArray 26)
 have H := hide (rread_any true _ zs (w.alloc (.cells zc.toArray 26)) hB hl ((hI.below hb1).mono (by simp)))
 go_enter Tryz.func61, Tryz.ntmps61
 go_wp2_with fail
 refine H.out.mono ?_
 rintro e w2 ⟨hb2, ⟨h, rfl⟩ | ⟨h, so, sd, rfl, hO1, hO2⟩⟩
 ·have p2 := (hb2.block w.heap.size (by simp)).trans p1
  have P2 := block_cell p2
  have F2 := block_frozen p2
  go_wp2_with fail
  generalize hV : ((((((((w2.setCell ⟨w.heap.size, 0, none⟩ _).setCell ⟨w.heap.size, 1, none⟩ _).setCell ⟨w.heap.size, 2, none⟩ _).setCell ⟨w.heap.size, 3, none⟩ _).setCell ⟨w.heap.size, 4, none⟩ _).setCell ⟨w.heap.size, 5, none⟩ _).setCell ⟨w.heap.size, 6, none⟩ _).setCell ⟨w.heap.size, 7, none⟩ _).setCell ⟨w.heap.size, 8, none⟩ _ = V
  have hV9 : V = putRow w2 w.heap.size 0 zc := hV.symm
  have hb8 : But (fun b => b = w.heap.size) w2 V := by rw [hV9]; exact putRow_but (E := fun b => b = w.heap.size) (n := w.heap.size) rfl _ _ _ _ (But.refl _ _)
  have p8 := putRow_all zc p2 rfl
  rw [← hV9] at p8
  clear hV hV9 P2 F2 H
  have P8 := block_cell p8
  have hbW := (hb1.trans (hb2.mono (by simp))).trans (hb8.below (by have := hb2.size; simp at this; omega) (fun j h e => by omega))
  exact bodyPost_ret (v := .tuple #[.agg zc.toArray, .int .i64 (rde true zs)]) (by simp [results, Tryz.results61, go_sem, P8]) rfl ⟨hbW, .inl ⟨h, rfl⟩⟩
 ·have p2 := (hb2.block w.heap.size (by simp)).trans p1
  have P2 := block_cell p2
  have F2 := block_frozen p2
  obtain ⟨aso, cso, rfl, _, _⟩ := hO1.slice
  obtain ⟨asd, csd, rfl, _, _⟩ := hO2.slice
  generalize hL1 : ((zs.take (hl4 zs).toNat).drop 20).length = lo at *
  generalize hL2 : ((zs.take (ral true zs).toNat).drop (hl4 zs).toNat).length = ld at *
  have HL1 := hide hL1
  have HL2 := hide hL2
  clear hL1 hL2
  unfold pkt
  go_wp2_with fail
  generalize hV : ((((((((w2.setCell ⟨w.heap.size, 0, none⟩ _).setCell ⟨w.heap.size, 1, none⟩ _).setCell ⟨w.heap.size, 2, none⟩ _).setCell ⟨w.heap.size, 3, none⟩ _).setCell ⟨w.heap.size, 4, none⟩ _).setCell ⟨w.heap.size, 5, none⟩ _).setCell ⟨w.heap.size, 6, none⟩ _).setCell ⟨w.heap.size, 7, none⟩ _).setCell ⟨w.heap.size, 8, none⟩ _ = V
  have hV9 : V = putRow w2 w.heap.size 0 [.int .u8 (zs[1]?.getD 0), .int .u16 (wat zs 4), .bool (decide (16384 ≤ wat zs 6 % 32768)), .int .u8 (zs[8]?.getD 0), .int .u8 (zs[9]?.getD 0), .int .u32 (wat4 zs 12), .int .u32 (wat4 zs 16), .slice aso lo cso, .slice asd ld csd] := hV.symm
  have hb8 : But (fun b => b = w.heap.size) w2 V := by rw [hV9]; exact putRow_but (E := fun b => b = w.heap.size) (n := w.heap.size) rfl _ _ _ _ (But.refl _ _)
  have p8 := putRow_all [.int .u8 (zs[1]?.getD 0), .int .u16 (wat zs 4), .bool (decide (16384 ≤ wat zs 6 % 32768)), .int .u8 (zs[8]?.getD 0), .int .u8 (zs[9]?.getD 0), .int .u32 (wat4 zs 12), .int .u32 (wat4 zs 16), .slice aso lo cso, .slice asd ld csd] p2 rfl
  rw [← hV9] at p8
  clear hV hV9 P2 F2 H
  have P8 := block_cell p8
  have hbW := (hb1.trans (hb2.mono (by simp))).trans (hb8.below (by have := hb2.size; simp at this; omega) (fun j h e => by omega))
  exact bodyPost_ret (v := .tuple #[pkt zs (.slice aso lo cso) (.slice asd ld csd), .int .i64 0]) (by simp [results, Tryz.results61, go_sem, P8, pkt]) rfl ⟨hbW, .inr ⟨h, _, _, rfl, (hO1.but hb8 (fun b h e => by simp at h; omega)).mono (by simp), (hO2.but hb8 (fun b h e => by simp at h; omega)).mono (by simp)⟩⟩

end Go.Proofs.YtghpakfjpdifaaaGreatDoor

/- The document's Inner: where it refuses; segments and datagrams. -/
namespace Go.Proofs.YtghpakfjpdifaaaGreatDoor
open Go.RowKit Go.Shelf
set_option maxRecDepth 100000
set_option linter.unusedVariables false
set_option linter.unusedSimpArgs false

def rin (zd : List Int) (v : Value) (c : Int) (e : Ending) : Prop := ∃ (y0 y1 : Int) (y2 : Bool) (y3 y4 y5 y6 : Int) (y7 : Option Addr) (m7 d7 : Nat) (y8 : Option Addr) (m8 d8 : Nat), e = .returned (.tuple #[.agg #[.int .u8 y0, .int .u16 y1, .bool y2, .int .u8 y3, .int .u8 y4, .int .u32 y5, .int .u32 y6, .slice y7 m7 d7, .slice y8 m8 d8], v, .int .i64 c]) ∧ (c = 0 → y4 = qpr (zd.drop 8) ∧ m7 = (((zd.drop 8).take (hl4 (zd.drop 8)).toNat).drop 20).length ∧ m8 = (qdt (zd.drop 8)).length)
theorem rin_yes {zd : List Int} (y0 y1 : Int) (y2 : Bool) (y3 y4 y5 y6 : Int) (y7 : Option Addr) (m7 d7 : Nat) (y8 : Option Addr) (m8 d8 : Nat) (v : Value) (c : Int) (h : y4 = qpr (zd.drop 8) ∧ m7 = (((zd.drop 8).take (hl4 (zd.drop 8)).toNat).drop 20).length ∧ m8 = (qdt (zd.drop 8)).length) : rin zd v c (.returned (.tuple #[.agg #[.int .u8 y0, .int .u16 y1, .bool y2, .int .u8 y3, .int .u8 y4, .int .u32 y5, .int .u32 y6, .slice y7 m7 d7, .slice y8 m8 d8], v, .int .i64 c])) := ⟨_, _, _, _, _, _, _, _, _, _, _, _, _, rfl, fun _ => h⟩
theorem rin_no {zd : List Int} (y0 y1 : Int) (y2 : Bool) (y3 y4 y5 y6 : Int) (y7 : Option Addr) (m7 d7 : Nat) (y8 : Option Addr) (m8 d8 : Nat) (v : Value) (c : Int) (h : c ≠ 0) : rin zd v c (.returned (.tuple #[.agg #[.int .u8 y0, .int .u16 y1, .bool y2, .int .u8 y3, .int .u8 y4, .int .u32 y5, .int .u32 y6, .slice y7 m7 d7, .slice y8 m8 d8], v, .int .i64 c])) := ⟨_, _, _, _, _, _, _, _, _, _, _, _, _, rfl, fun e => absurd e h⟩
theorem que_bad {zd : List Int} (hbad : pie 1 zd ≠ 0 ∨ erb (zd[0]?.getD 0) = false ∨ rde true (zd.drop 8) ≠ 0) : que 1 zd ≠ 0 := by
 unfold que
 by_cases h1 : pie 1 zd ≠ 0
 ·rw [if_pos h1]; exact h1
 rw [if_neg h1]
 by_cases h2 : erb (zd[0]?.getD 0) = false
 ·rw [if_pos h2]; decide
 rw [if_neg h2]
 by_cases h3 : rde true (zd.drop 8) ≠ 0
 ·rw [if_pos h3]; exact h3
 ·rcases hbad with h | h | h
  ·exact absurd h h1
  ·exact absurd h h2
  ·exact absurd h h3

set_option maxHeartbeats 4000000 in
theorem rinner_kind (proto : Int) (tos id ttl src dst : Int) (keep : Bool) (so sd : Value) (zd : List Int) (w : World) (hB : Mt.By zd) (hI : Rd w.heap.size w sd zd) (hl : zd.length ≤ 1099511627776) (hp : proto ≠ 1) : Calls Tryz.prog 20 #[.agg #[.int .u8 tos, .int .u16 id, .bool keep, .int .u8 ttl, .int .u8 proto, .int .u32 src, .int .u32 dst, so, sd]] w fun e w' => Below w.heap.size w w' ∧ rin zd (.agg #[.int .u8 0, .int .u32 0, .int .u32 0, .int .u16 0, .int .u16 0]) 12 e := by
 have hne : (proto != 1) = true := by simp [hp]
 clear hp
 obtain ⟨ad, cd, rfl, _, _⟩ := hI.slice
 have hb0 : Below w.heap.size w (((w.alloc (.cells #[.int .u8 tos, .int .u16 id, .bool keep, .int .u8 ttl, .int .u8 proto, .int .u32 src, .int .u32 dst, so, .slice ad zd.length cd] 26)).alloc (.cells #[.int .u8 0, .int .u16 0, .bool false, .int .u8 0, .int .u8 0, .int .u32 0, .int .u32 0, .slice none 0 0, .slice none 0 0] 26)).alloc (.cells #[.int .u8 0, .int .u32 0, .int .u32 0, .int .u16 0, .int .u16 0] 29)) := ((((Below.refl _ _).alloc (Nat.le_refl _) _).alloc (by simp) _).alloc (by simp <;> omega) _)
 have r0 : (((w.alloc (.cells #[.int .u8 tos, .int .u16 id, .bool keep, .int .u8 ttl, .int .u8 proto, .int .u32 src, .int .u32 dst, so, .slice ad zd.length cd] 26)).alloc (.cells #[.int .u8 0, .int .u16 0, .bool false, .int .u8 0, .int .u8 0, .int .u32 0, .int .u32 0, .slice none 0 0, .slice none 0 0] 26)).alloc (.cells #[.int .u8 0, .int .u32 0, .int .u32 0, .int .u16 0, .int .u16 0] 29)).heap[w.heap.size + 1]? = some (.cells #[.int .u8 0, .int .u16 0, .bool false, .int .u8 0, .int .u8 0, .int .u32 0, .int .u32 0, .slice none 0 0, .slice none 0 0] 26) := by
  have := heap_alloc_new (w.alloc (.cells #[.int .u8 tos, .int .u16 id, .bool keep, .int .u8 ttl, .int .u8 proto, .int .u32 src, .int .u32 dst, so, .slice ad zd.length cd] 26)) (.cells #[.int .u8 0, .int .u16 0, .bool false, .int .u8 0, .int .u8 0, .int .u32 0, .int .u32 0, .slice none 0 0, .slice none 0 0] 26)
  rw [World.size_alloc] at this
  exact (Below.heap_alloc _ _ _ (by simp)).trans this
 have s0 : (((w.alloc (.cells #[.int .u8 tos, .int .u16 id, .bool keep, .int .u8 ttl, .int .u8 proto, .int .u32 src, .int .u32 dst, so, .slice ad zd.length cd] 26)).alloc (.cells #[.int .u8 0, .int .u16 0, .bool false, .int .u8 0, .int .u8 0, .int .u32 0, .int .u32 0, .slice none 0 0, .slice none 0 0] 26)).alloc (.cells #[.int .u8 0, .int .u32 0, .int .u32 0, .int .u16 0, .int .u16 0] 29)).heap[w.heap.size + 1 + 1]? = some (.cells #[.int .u8 0, .int .u32 0, .int .u32 0, .int .u16 0, .int .u16 0] 29) := by
  have := heap_alloc_new ((w.alloc (.cells #[.int .u8 tos, .int .u16 id, .bool keep, .int .u8 ttl, .int .u8 proto, .int .u32 src, .int .u32 dst, so, .slice ad zd.length cd] 26)).alloc (.cells #[.int .u8 0, .int .u16 0, .bool false, .int .u8 0, .int .u8 0, .int .u32 0, .int .u32 0, .slice none 0 0, .slice none 0 0] 26)) (.cells #[.int .u8 0, .int .u32 0, .int .u32 0, .int .u16 0, .int .u16 0] 29)
  simpa only [World.size_alloc] using this
 have R0 := hide r0
 have S0 := hide s0
 clear r0 s0
 go_enter Tryz.func20, Tryz.ntmps20
 go_upto_region 2 with fail
 generalize (((w.alloc (.cells #[.int .u8 tos, .int .u16 id, .bool keep, .int .u8 ttl, .int .u8 proto, .int .u32 src, .int .u32 dst, so, .slice ad zd.length cd] 26)).alloc (.cells #[.int .u8 0, .int .u16 0, .bool false, .int .u8 0, .int .u8 0, .int .u32 0, .int .u32 0, .slice none 0 0, .slice none 0 0] 26)).alloc (.cells #[.int .u8 0, .int .u32 0, .int .u32 0, .int .u16 0, .int .u16 0] 29)) = w0 at *
 have rX := R0.out
 have sX := S0.out
 have hwX := hb0
 have kX := block_cell rX
 have fX := block_frozen rX
 have kS := block_cell sX
 have fS := block_frozen sX
 go_wp2_with fail
 generalize hV : (((((((((((((w0.setCell ⟨w.heap.size + 1, 0, none⟩ _).setCell ⟨w.heap.size + 1, 1, none⟩ _).setCell ⟨w.heap.size + 1, 2, none⟩ _).setCell ⟨w.heap.size + 1, 3, none⟩ _).setCell ⟨w.heap.size + 1, 4, none⟩ _).setCell ⟨w.heap.size + 1, 5, none⟩ _).setCell ⟨w.heap.size + 1, 6, none⟩ _).setCell ⟨w.heap.size + 1, 7, none⟩ _).setCell ⟨w.heap.size + 1, 8, none⟩ _).setCell ⟨w.heap.size + 1 + 1, 0, none⟩ _).setCell ⟨w.heap.size + 1 + 1, 1, none⟩ _).setCell ⟨w.heap.size + 1 + 1, 2, none⟩ _).setCell ⟨w.heap.size + 1 + 1, 3, none⟩ _).setCell ⟨w.heap.size + 1 + 1, 4, none⟩ _ = V
 have hV8 : V = putRow (putRow w0 (w.heap.size + 1) 0 [.int .u8 0, .int .u16 0, .bool false, .int .u8 0, .int .u8 0, .int .u32 0, .int .u32 0, .slice none 0 0, .slice none 0 0]) (w.heap.size + 1 + 1) 0 [.int .u8 0, .int .u32 0, .int .u32 0, .int .u16 0, .int .u16 0] := hV.symm
 have hbY : But (fun b => b = w.heap.size + 1) w0 (putRow w0 (w.heap.size + 1) 0 [.int .u8 0, .int .u16 0, .bool false, .int .u8 0, .int .u8 0, .int .u32 0, .int .u32 0, .slice none 0 0, .slice none 0 0]) := putRow_but (E := fun b => b = w.heap.size + 1) (n := w.heap.size + 1) rfl _ _ _ _ (But.refl _ _)
 have pY := putRow_all ([.int .u8 0, .int .u16 0, .bool false, .int .u8 0, .int .u8 0, .int .u32 0, .int .u32 0, .slice none 0 0, .slice none 0 0] : List Value) rX rfl
 have sY := (hbY.block (w.heap.size + 1 + 1) (Array.getElem?_eq_some_iff.1 sX).1 (by omega)).trans sX
 generalize putRow w0 (w.heap.size + 1) 0 [.int .u8 0, .int .u16 0, .bool false, .int .u8 0, .int .u8 0, .int .u32 0, .int .u32 0, .slice none 0 0, .slice none 0 0] = Y at *
 have hbV : But (fun b => b = w.heap.size + 1 + 1) Y V := by rw [hV8]; exact putRow_but (E := fun b => b = w.heap.size + 1 + 1) (n := w.heap.size + 1 + 1) rfl _ _ _ _ (But.refl _ _)
 have qV := putRow_all ([.int .u8 0, .int .u32 0, .int .u32 0, .int .u16 0, .int .u16 0] : List Value) sY rfl
 rw [← hV8] at qV
 have pV := (hbV.block (w.heap.size + 1) (Array.getElem?_eq_some_iff.1 pY).1 (by omega)).trans pY
 clear hV8 kX fX kS fS
 have PV := block_cell pV
 have QV := block_cell qV
 have hwV : Below w.heap.size w V := (hwX.trans (hbY.below hwX.size (fun k hk e => by omega))).trans (hbV.below (Nat.le_trans hwX.size hbY.size) (fun k hk e => by omega))
 exact bodyPost_ret (v := .tuple #[.agg #[.int .u8 0, .int .u16 0, .bool false, .int .u8 0, .int .u8 0, .int .u32 0, .int .u32 0, .slice none 0 0, .slice none 0 0], .agg #[.int .u8 0, .int .u32 0, .int .u32 0, .int .u16 0, .int .u16 0], .int .i64 12]) (by simp [results, Tryz.results20, go_sem, PV, QV]) rfl ⟨hwV, rin_no _ _ _ _ _ _ _ _ _ _ _ _ _ _ _ (by decide)⟩

set_option maxHeartbeats 4000000 in
theorem rinner_bad (tos id ttl src dst : Int) (keep : Bool) (so sd : Value) (zd : List Int) (w : World) (hB : Mt.By zd) (hI : Rd w.heap.size w sd zd) (hl : zd.length ≤ 1099511627776) (hbad : pie 1 zd ≠ 0 ∨ erb (zd[0]?.getD 0) = false ∨ rde true (zd.drop 8) ≠ 0) : Calls Tryz.prog 20 #[.agg #[.int .u8 tos, .int .u16 id, .bool keep, .int .u8 ttl, .int .u8 1, .int .u32 src, .int .u32 dst, so, sd]] w fun e w' => Below w.heap.size w w' ∧ rin zd (.agg #[.int .u8 0, .int .u32 0, .int .u32 0, .int .u16 0, .int .u16 0]) (que 1 zd) e := by
 have HNZ := hide (que_bad hbad)
 obtain ⟨ad, cd, rfl, _, _⟩ := hI.slice
 have hb0 : Below w.heap.size w (((w.alloc (.cells #[.int .u8 tos, .int .u16 id, .bool keep, .int .u8 ttl, .int .u8 1, .int .u32 src, .int .u32 dst, so, .slice ad zd.length cd] 26)).alloc (.cells #[.int .u8 0, .int .u16 0, .bool false, .int .u8 0, .int .u8 0, .int .u32 0, .int .u32 0, .slice none 0 0, .slice none 0 0] 26)).alloc (.cells #[.int .u8 0, .int .u32 0, .int .u32 0, .int .u16 0, .int .u16 0] 29)) := ((((Below.refl _ _).alloc (Nat.le_refl _) _).alloc (by simp) _).alloc (by simp <;> omega) _)
 have r0 : (((w.alloc (.cells #[.int .u8 tos, .int .u16 id, .bool keep, .int .u8 ttl, .int .u8 1, .int .u32 src, .int .u32 dst, so, .slice ad zd.length cd] 26)).alloc (.cells #[.int .u8 0, .int .u16 0, .bool false, .int .u8 0, .int .u8 0, .int .u32 0, .int .u32 0, .slice none 0 0, .slice none 0 0] 26)).alloc (.cells #[.int .u8 0, .int .u32 0, .int .u32 0, .int .u16 0, .int .u16 0] 29)).heap[w.heap.size + 1]? = some (.cells #[.int .u8 0, .int .u16 0, .bool false, .int .u8 0, .int .u8 0, .int .u32 0, .int .u32 0, .slice none 0 0, .slice none 0 0] 26) := by
  have := heap_alloc_new (w.alloc (.cells #[.int .u8 tos, .int .u16 id, .bool keep, .int .u8 ttl, .int .u8 1, .int .u32 src, .int .u32 dst, so, .slice ad zd.length cd] 26)) (.cells #[.int .u8 0, .int .u16 0, .bool false, .int .u8 0, .int .u8 0, .int .u32 0, .int .u32 0, .slice none 0 0, .slice none 0 0] 26)
  rw [World.size_alloc] at this
  exact (Below.heap_alloc _ _ _ (by simp)).trans this
 have s0 : (((w.alloc (.cells #[.int .u8 tos, .int .u16 id, .bool keep, .int .u8 ttl, .int .u8 1, .int .u32 src, .int .u32 dst, so, .slice ad zd.length cd] 26)).alloc (.cells #[.int .u8 0, .int .u16 0, .bool false, .int .u8 0, .int .u8 0, .int .u32 0, .int .u32 0, .slice none 0 0, .slice none 0 0] 26)).alloc (.cells #[.int .u8 0, .int .u32 0, .int .u32 0, .int .u16 0, .int .u16 0] 29)).heap[w.heap.size + 1 + 1]? = some (.cells #[.int .u8 0, .int .u32 0, .int .u32 0, .int .u16 0, .int .u16 0] 29) := by
  have := heap_alloc_new ((w.alloc (.cells #[.int .u8 tos, .int .u16 id, .bool keep, .int .u8 ttl, .int .u8 1, .int .u32 src, .int .u32 dst, so, .slice ad zd.length cd] 26)).alloc (.cells #[.int .u8 0, .int .u16 0, .bool false, .int .u8 0, .int .u8 0, .int .u32 0, .int .u32 0, .slice none 0 0, .slice none 0 0] 26)) (.cells #[.int .u8 0, .int .u32 0, .int .u32 0, .int .u16 0, .int .u16 0] 29)
  simpa only [World.size_alloc] using this
 have R0 := hide r0
 have S0 := hide s0
 clear r0 s0
 go_enter Tryz.func20, Tryz.ntmps20
 go_wp2_with fail
 generalize (((w.alloc (.cells #[.int .u8 tos, .int .u16 id, .bool keep, .int .u8 ttl, .int .u8 1, .int .u32 src, .int .u32 dst, so, .slice ad zd.length cd] 26)).alloc (.cells #[.int .u8 0, .int .u16 0, .bool false, .int .u8 0, .int .u8 0, .int .u32 0, .int .u32 0, .slice none 0 0, .slice none 0 0] 26)).alloc (.cells #[.int .u8 0, .int .u32 0, .int .u32 0, .int .u16 0, .int .u16 0] 29)) = w0 at *
 refine (rparseIcmp_any tos id ttl 1 src dst keep _ _ zd w0 hB ((hI.below hb0).mono hb0.size) hl).mono ?_
 rintro e w1 ⟨hb1, ⟨hf, rfl⟩ | ⟨hf, a1, c1, rfl, hO⟩⟩
 ·rw [show zm.toArray = #[.int .u8 0, .int .u8 0, .int .u32 0, .slice none 0 0] from rfl]
  have HQ : Hid (que 1 zd = pie 1 zd) := if_pos hf
  generalize hpu : pie 1 zd = f at *
  have hne : (f != 0) = true := by simp [hf]
  clear hpu hf hbad
  have la : Later w1 (w1.alloc (.cells #[.int .u8 0, .int .u8 0, .int .u32 0, .slice none 0 0] 42)) := (Below.refl _ _).alloc (Nat.le_refl _) _
  have l1 := Later.trans hb1 la
  have rX := later_keep l1 R0.out
  have sX := later_keep l1 S0.out
  have hwX := hb0.trans (l1.mono hb0.size)
  have kX := block_cell rX
  have fX := block_frozen rX
  have kS := block_cell sX
  have fS := block_frozen sX
  go_wp2_with fail
  generalize w1.alloc (.cells #[.int .u8 0, .int .u8 0, .int .u32 0, .slice none 0 0] 42) = W at *
  generalize hV : (((((((((((((W.setCell ⟨w.heap.size + 1, 0, none⟩ _).setCell ⟨w.heap.size + 1, 1, none⟩ _).setCell ⟨w.heap.size + 1, 2, none⟩ _).setCell ⟨w.heap.size + 1, 3, none⟩ _).setCell ⟨w.heap.size + 1, 4, none⟩ _).setCell ⟨w.heap.size + 1, 5, none⟩ _).setCell ⟨w.heap.size + 1, 6, none⟩ _).setCell ⟨w.heap.size + 1, 7, none⟩ _).setCell ⟨w.heap.size + 1, 8, none⟩ _).setCell ⟨w.heap.size + 1 + 1, 0, none⟩ _).setCell ⟨w.heap.size + 1 + 1, 1, none⟩ _).setCell ⟨w.heap.size + 1 + 1, 2, none⟩ _).setCell ⟨w.heap.size + 1 + 1, 3, none⟩ _).setCell ⟨w.heap.size + 1 + 1, 4, none⟩ _ = V
  have hV8 : V = putRow (putRow W (w.heap.size + 1) 0 [.int .u8 0, .int .u16 0, .bool false, .int .u8 0, .int .u8 0, .int .u32 0, .int .u32 0, .slice none 0 0, .slice none 0 0]) (w.heap.size + 1 + 1) 0 [.int .u8 0, .int .u32 0, .int .u32 0, .int .u16 0, .int .u16 0] := hV.symm
  have hbY : But (fun b => b = w.heap.size + 1) W (putRow W (w.heap.size + 1) 0 [.int .u8 0, .int .u16 0, .bool false, .int .u8 0, .int .u8 0, .int .u32 0, .int .u32 0, .slice none 0 0, .slice none 0 0]) := putRow_but (E := fun b => b = w.heap.size + 1) (n := w.heap.size + 1) rfl _ _ _ _ (But.refl _ _)
  have pY := putRow_all ([.int .u8 0, .int .u16 0, .bool false, .int .u8 0, .int .u8 0, .int .u32 0, .int .u32 0, .slice none 0 0, .slice none 0 0] : List Value) rX rfl
  have sY := (hbY.block (w.heap.size + 1 + 1) (Array.getElem?_eq_some_iff.1 sX).1 (by omega)).trans sX
  generalize putRow W (w.heap.size + 1) 0 [.int .u8 0, .int .u16 0, .bool false, .int .u8 0, .int .u8 0, .int .u32 0, .int .u32 0, .slice none 0 0, .slice none 0 0] = Y at *
  have hbV : But (fun b => b = w.heap.size + 1 + 1) Y V := by rw [hV8]; exact putRow_but (E := fun b => b = w.heap.size + 1 + 1) (n := w.heap.size + 1 + 1) rfl _ _ _ _ (But.refl _ _)
  have qV := putRow_all ([.int .u8 0, .int .u32 0, .int .u32 0, .int .u16 0, .int .u16 0] : List Value) sY rfl
  rw [← hV8] at qV
  have pV := (hbV.block (w.heap.size + 1) (Array.getElem?_eq_some_iff.1 pY).1 (by omega)).trans pY
  clear hV8 kX fX kS fS
  have PV := block_cell pV
  have QV := block_cell qV
  have hwV : Below w.heap.size w V := (hwX.trans (hbY.below hwX.size (fun k hk e => by omega))).trans (hbV.below (Nat.le_trans hwX.size hbY.size) (fun k hk e => by omega))
  exact bodyPost_ret (v := .tuple #[.agg #[.int .u8 0, .int .u16 0, .bool false, .int .u8 0, .int .u8 0, .int .u32 0, .int .u32 0, .slice none 0 0, .slice none 0 0], .agg #[.int .u8 0, .int .u32 0, .int .u32 0, .int .u16 0, .int .u16 0], .int .i64 f]) (by simp [results, Tryz.results20, go_sem, PV, QV]) rfl ⟨hwV, by rw [HQ.out]; exact rin_no _ _ _ _ _ _ _ _ _ _ _ _ _ _ _ (by rw [← HQ.out]; exact HNZ.out)⟩
 ·have HPF := hide hf
  clear hf
  have la : Later w1 (w1.alloc (.cells #[.int .u8 (zd[0]?.getD 0), .int .u8 (zd[1]?.getD 0), .int .u32 (wat4 zd 4), .slice a1 (zd.length - 8) c1] 42)) := (Below.refl _ _).alloc (Nat.le_refl _) _
  have l1 := Later.trans hb1 la
  have mW := heap_alloc_new w1 (.cells #[.int .u8 (zd[0]?.getD 0), .int .u8 (zd[1]?.getD 0), .int .u32 (wat4 zd 4), .slice a1 (zd.length - 8) c1] 42)
  have rW := later_keep l1 R0.out
  have sW := later_keep l1 S0.out
  have hwW := hb0.trans (l1.mono hb0.size)
  have DW := hO.ck (CK.of la)
  go_wp2_with fail
  generalize w1.alloc (.cells #[.int .u8 (zd[0]?.getD 0), .int .u8 (zd[1]?.getD 0), .int .u32 (wat4 zd 4), .slice a1 (zd.length - 8) c1] 42) = W at *
  generalize w1.heap.size = gm at *
  refine (risError_any (zd[0]?.getD 0) (zd[1]?.getD 0) (wat4 zd 4) _ W).mono ?_
  have HER : Hid (erb (zd[0]?.getD 0) = (zd[0]?.getD 0 == 3 || (zd[0]?.getD 0 == 11 || zd[0]?.getD 0 == 12))) := rfl
  generalize (zd[0]?.getD 0 == 3 || (zd[0]?.getD 0 == 11 || zd[0]?.getD 0 == 12)) = bq at *
  rintro e w2 ⟨rfl, hb2⟩
  have l2 : Later W w2 := hb2
  have r2 := later_keep l2 rW
  have s2 := later_keep l2 sW
  have hw2 := hwW.trans (hb2.mono hwW.size)
  cases bq with
  | false =>
   have HQ : Hid (que 1 zd = 12) := by show _ = _; unfold que; rw [if_neg (fun h => h HPF.out), if_pos HER.out]
   clear hbad
   have rX := r2
   have sX := s2
   have hwX := hw2
   have kX := block_cell rX
   have fX := block_frozen rX
   have kS := block_cell sX
   have fS := block_frozen sX
   go_wp2_with fail
   generalize hV : (((((((((((((w2.setCell ⟨w.heap.size + 1, 0, none⟩ _).setCell ⟨w.heap.size + 1, 1, none⟩ _).setCell ⟨w.heap.size + 1, 2, none⟩ _).setCell ⟨w.heap.size + 1, 3, none⟩ _).setCell ⟨w.heap.size + 1, 4, none⟩ _).setCell ⟨w.heap.size + 1, 5, none⟩ _).setCell ⟨w.heap.size + 1, 6, none⟩ _).setCell ⟨w.heap.size + 1, 7, none⟩ _).setCell ⟨w.heap.size + 1, 8, none⟩ _).setCell ⟨w.heap.size + 1 + 1, 0, none⟩ _).setCell ⟨w.heap.size + 1 + 1, 1, none⟩ _).setCell ⟨w.heap.size + 1 + 1, 2, none⟩ _).setCell ⟨w.heap.size + 1 + 1, 3, none⟩ _).setCell ⟨w.heap.size + 1 + 1, 4, none⟩ _ = V
   have hV8 : V = putRow (putRow w2 (w.heap.size + 1) 0 [.int .u8 0, .int .u16 0, .bool false, .int .u8 0, .int .u8 0, .int .u32 0, .int .u32 0, .slice none 0 0, .slice none 0 0]) (w.heap.size + 1 + 1) 0 [.int .u8 0, .int .u32 0, .int .u32 0, .int .u16 0, .int .u16 0] := hV.symm
   have hbY : But (fun b => b = w.heap.size + 1) w2 (putRow w2 (w.heap.size + 1) 0 [.int .u8 0, .int .u16 0, .bool false, .int .u8 0, .int .u8 0, .int .u32 0, .int .u32 0, .slice none 0 0, .slice none 0 0]) := putRow_but (E := fun b => b = w.heap.size + 1) (n := w.heap.size + 1) rfl _ _ _ _ (But.refl _ _)
   have pY := putRow_all ([.int .u8 0, .int .u16 0, .bool false, .int .u8 0, .int .u8 0, .int .u32 0, .int .u32 0, .slice none 0 0, .slice none 0 0] : List Value) rX rfl
   have sY := (hbY.block (w.heap.size + 1 + 1) (Array.getElem?_eq_some_iff.1 sX).1 (by omega)).trans sX
   generalize putRow w2 (w.heap.size + 1) 0 [.int .u8 0, .int .u16 0, .bool false, .int .u8 0, .int .u8 0, .int .u32 0, .int .u32 0, .slice none 0 0, .slice none 0 0] = Y at *
   have hbV : But (fun b => b = w.heap.size + 1 + 1) Y V := by rw [hV8]; exact putRow_but (E := fun b => b = w.heap.size + 1 + 1) (n := w.heap.size + 1 + 1) rfl _ _ _ _ (But.refl _ _)
   have qV := putRow_all ([.int .u8 0, .int .u32 0, .int .u32 0, .int .u16 0, .int .u16 0] : List Value) sY rfl
   rw [← hV8] at qV
   have pV := (hbV.block (w.heap.size + 1) (Array.getElem?_eq_some_iff.1 pY).1 (by omega)).trans pY
   clear hV8 kX fX kS fS
   have PV := block_cell pV
   have QV := block_cell qV
   have hwV : Below w.heap.size w V := (hwX.trans (hbY.below hwX.size (fun k hk e => by omega))).trans (hbV.below (Nat.le_trans hwX.size hbY.size) (fun k hk e => by omega))
   exact bodyPost_ret (v := .tuple #[.agg #[.int .u8 0, .int .u16 0, .bool false, .int .u8 0, .int .u8 0, .int .u32 0, .int .u32 0, .slice none 0 0, .slice none 0 0], .agg #[.int .u8 0, .int .u32 0, .int .u32 0, .int .u16 0, .int .u16 0], .int .i64 12]) (by simp [results, Tryz.results20, go_sem, PV, QV]) rfl ⟨hwV, by rw [HQ.out]; exact rin_no _ _ _ _ _ _ _ _ _ _ _ _ _ _ _ (by rw [← HQ.out]; exact HNZ.out)⟩
  | true =>
   have hrd : rde true (zd.drop 8) ≠ 0 := by
    rcases hbad with h | h | h
    ·exact absurd HPF.out h
    ·rw [HER.out] at h; cases h
    ·exact h
   clear hbad
   have HQ : Hid (que 1 zd = rde true (zd.drop 8)) := by show _ = _; unfold que; rw [if_neg (fun h => h HPF.out), if_neg (by rw [HER.out]; decide), if_pos hrd]
   have km := block_cell (later_keep l2 mW)
   have D2 := DW.ck (CK.of l2)
   go_wp2_with fail
   clear km
   refine (rquote_any _ (zd.drop 8) w2 (hB.drop 8) (by simp; omega) D2.rd).mono ?_
   rintro e w3 ⟨hb3, ⟨hf3, rfl⟩ | ⟨hf3, _⟩⟩
   ·rw [show zc.toArray = #[.int .u8 0, .int .u16 0, .bool false, .int .u8 0, .int .u8 0, .int .u32 0, .int .u32 0, .slice none 0 0, .slice none 0 0] from rfl]
    generalize hpu : rde true (zd.drop 8) = f at *
    have hne : (f != 0) = true := by simp [hrd]
    clear hpu hrd hf3
    have la3 : Later w3 (w3.alloc (.cells #[.int .u8 0, .int .u16 0, .bool false, .int .u8 0, .int .u8 0, .int .u32 0, .int .u32 0, .slice none 0 0, .slice none 0 0] 26)) := (Below.refl _ _).alloc (Nat.le_refl _) _
    have l3 := Later.trans hb3 la3
    have rX := later_keep l3 r2
    have sX := later_keep l3 s2
    have hwX := hw2.trans (l3.mono hw2.size)
    have kX := block_cell rX
    have fX := block_frozen rX
    have kS := block_cell sX
    have fS := block_frozen sX
    go_wp2_with fail
    generalize w3.alloc (.cells #[.int .u8 0, .int .u16 0, .bool false, .int .u8 0, .int .u8 0, .int .u32 0, .int .u32 0, .slice none 0 0, .slice none 0 0] 26) = W3 at *
    generalize hV : (((((((((((((W3.setCell ⟨w.heap.size + 1, 0, none⟩ _).setCell ⟨w.heap.size + 1, 1, none⟩ _).setCell ⟨w.heap.size + 1, 2, none⟩ _).setCell ⟨w.heap.size + 1, 3, none⟩ _).setCell ⟨w.heap.size + 1, 4, none⟩ _).setCell ⟨w.heap.size + 1, 5, none⟩ _).setCell ⟨w.heap.size + 1, 6, none⟩ _).setCell ⟨w.heap.size + 1, 7, none⟩ _).setCell ⟨w.heap.size + 1, 8, none⟩ _).setCell ⟨w.heap.size + 1 + 1, 0, none⟩ _).setCell ⟨w.heap.size + 1 + 1, 1, none⟩ _).setCell ⟨w.heap.size + 1 + 1, 2, none⟩ _).setCell ⟨w.heap.size + 1 + 1, 3, none⟩ _).setCell ⟨w.heap.size + 1 + 1, 4, none⟩ _ = V
    have hV8 : V = putRow (putRow W3 (w.heap.size + 1) 0 [.int .u8 0, .int .u16 0, .bool false, .int .u8 0, .int .u8 0, .int .u32 0, .int .u32 0, .slice none 0 0, .slice none 0 0]) (w.heap.size + 1 + 1) 0 [.int .u8 0, .int .u32 0, .int .u32 0, .int .u16 0, .int .u16 0] := hV.symm
    have hbY : But (fun b => b = w.heap.size + 1) W3 (putRow W3 (w.heap.size + 1) 0 [.int .u8 0, .int .u16 0, .bool false, .int .u8 0, .int .u8 0, .int .u32 0, .int .u32 0, .slice none 0 0, .slice none 0 0]) := putRow_but (E := fun b => b = w.heap.size + 1) (n := w.heap.size + 1) rfl _ _ _ _ (But.refl _ _)
    have pY := putRow_all ([.int .u8 0, .int .u16 0, .bool false, .int .u8 0, .int .u8 0, .int .u32 0, .int .u32 0, .slice none 0 0, .slice none 0 0] : List Value) rX rfl
    have sY := (hbY.block (w.heap.size + 1 + 1) (Array.getElem?_eq_some_iff.1 sX).1 (by omega)).trans sX
    generalize putRow W3 (w.heap.size + 1) 0 [.int .u8 0, .int .u16 0, .bool false, .int .u8 0, .int .u8 0, .int .u32 0, .int .u32 0, .slice none 0 0, .slice none 0 0] = Y at *
    have hbV : But (fun b => b = w.heap.size + 1 + 1) Y V := by rw [hV8]; exact putRow_but (E := fun b => b = w.heap.size + 1 + 1) (n := w.heap.size + 1 + 1) rfl _ _ _ _ (But.refl _ _)
    have qV := putRow_all ([.int .u8 0, .int .u32 0, .int .u32 0, .int .u16 0, .int .u16 0] : List Value) sY rfl
    rw [← hV8] at qV
    have pV := (hbV.block (w.heap.size + 1) (Array.getElem?_eq_some_iff.1 pY).1 (by omega)).trans pY
    clear hV8 kX fX kS fS
    have PV := block_cell pV
    have QV := block_cell qV
    have hwV : Below w.heap.size w V := (hwX.trans (hbY.below hwX.size (fun k hk e => by omega))).trans (hbV.below (Nat.le_trans hwX.size hbY.size) (fun k hk e => by omega))
    exact bodyPost_ret (v := .tuple #[.agg #[.int .u8 0, .int .u16 0, .bool false, .int .u8 0, .int .u8 0, .int .u32 0, .int .u32 0, .slice none 0 0, .slice none 0 0], .agg #[.int .u8 0, .int .u32 0, .int .u32 0, .int .u16 0, .int .u16 0], .int .i64 f]) (by simp [results, Tryz.results20, go_sem, PV, QV]) rfl ⟨hwV, by rw [HQ.out]; exact rin_no _ _ _ _ _ _ _ _ _ _ _ _ _ _ _ (by rw [← HQ.out]; exact HNZ.out)⟩
   ·exact absurd hf3 hrd

set_option maxHeartbeats 8000000 in
theorem rinner_tcp (pr : Int) (tos id ttl src dst : Int) (keep : Bool) (so sd : Value) (zd : List Int) (w : World) (hB : Mt.By zd) (hI : Rd w.heap.size w sd zd) (hl : zd.length ≤ 1099511627776) (hpi : pie 1 zd = 0) (her : erb (zd[0]?.getD 0) = true) (hrd : rde true (zd.drop 8) = 0) (hpr : (zd.drop 8)[9]?.getD 0 = pr) (h8 : 8 ≤ (qdt (zd.drop 8)).length) (hld : (qdt (zd.drop 8)).length ≤ 140737488355328) (hp : pr = 6) : Calls Tryz.prog 20 #[.agg #[.int .u8 tos, .int .u16 id, .bool keep, .int .u8 ttl, .int .u8 1, .int .u32 src, .int .u32 dst, so, sd]] w fun e w' => Below w.heap.size w w' ∧ rin zd (.agg #[.int .u8 pr, .int .u32 (wat4 (zd.drop 8) 12), .int .u32 (wat4 (zd.drop 8) 16), .int .u16 (getAt2 (qdt (zd.drop 8)) 0), .int .u16 (getAt2 (qdt (zd.drop 8)) 2)]) 0 e := by
 obtain ⟨ad, cd, rfl, _, _⟩ := hI.slice
 have hb0 : Below w.heap.size w (((w.alloc (.cells #[.int .u8 tos, .int .u16 id, .bool keep, .int .u8 ttl, .int .u8 1, .int .u32 src, .int .u32 dst, so, .slice ad zd.length cd] 26)).alloc (.cells #[.int .u8 0, .int .u16 0, .bool false, .int .u8 0, .int .u8 0, .int .u32 0, .int .u32 0, .slice none 0 0, .slice none 0 0] 26)).alloc (.cells #[.int .u8 0, .int .u32 0, .int .u32 0, .int .u16 0, .int .u16 0] 29)) := ((((Below.refl _ _).alloc (Nat.le_refl _) _).alloc (by simp) _).alloc (by simp <;> omega) _)
 have r0 : (((w.alloc (.cells #[.int .u8 tos, .int .u16 id, .bool keep, .int .u8 ttl, .int .u8 1, .int .u32 src, .int .u32 dst, so, .slice ad zd.length cd] 26)).alloc (.cells #[.int .u8 0, .int .u16 0, .bool false, .int .u8 0, .int .u8 0, .int .u32 0, .int .u32 0, .slice none 0 0, .slice none 0 0] 26)).alloc (.cells #[.int .u8 0, .int .u32 0, .int .u32 0, .int .u16 0, .int .u16 0] 29)).heap[w.heap.size + 1]? = some (.cells #[.int .u8 0, .int .u16 0, .bool false, .int .u8 0, .int .u8 0, .int .u32 0, .int .u32 0, .slice none 0 0, .slice none 0 0] 26) := by
  have := heap_alloc_new (w.alloc (.cells #[.int .u8 tos, .int .u16 id, .bool keep, .int .u8 ttl, .int .u8 1, .int .u32 src, .int .u32 dst, so, .slice ad zd.length cd] 26)) (.cells #[.int .u8 0, .int .u16 0, .bool false, .int .u8 0, .int .u8 0, .int .u32 0, .int .u32 0, .slice none 0 0, .slice none 0 0] 26)
  rw [World.size_alloc] at this
  exact (Below.heap_alloc _ _ _ (by simp)).trans this
 have s0 : (((w.alloc (.cells #[.int .u8 tos, .int .u16 id, .bool keep, .int .u8 ttl, .int .u8 1, .int .u32 src, .int .u32 dst, so, .slice ad zd.length cd] 26)).alloc (.cells #[.int .u8 0, .int .u16 0, .bool false, .int .u8 0, .int .u8 0, .int .u32 0, .int .u32 0, .slice none 0 0, .slice none 0 0] 26)).alloc (.cells #[.int .u8 0, .int .u32 0, .int .u32 0, .int .u16 0, .int .u16 0] 29)).heap[w.heap.size + 1 + 1]? = some (.cells #[.int .u8 0, .int .u32 0, .int .u32 0, .int .u16 0, .int .u16 0] 29) := by
  have := heap_alloc_new ((w.alloc (.cells #[.int .u8 tos, .int .u16 id, .bool keep, .int .u8 ttl, .int .u8 1, .int .u32 src, .int .u32 dst, so, .slice ad zd.length cd] 26)).alloc (.cells #[.int .u8 0, .int .u16 0, .bool false, .int .u8 0, .int .u8 0, .int .u32 0, .int .u32 0, .slice none 0 0, .slice none 0 0] 26)) (.cells #[.int .u8 0, .int .u32 0, .int .u32 0, .int .u16 0, .int .u16 0] 29)
  simpa only [World.size_alloc] using this
 have R0 := hide r0
 have S0 := hide s0
 clear r0 s0
 go_enter Tryz.func20, Tryz.ntmps20
 go_wp2_with fail
 generalize (((w.alloc (.cells #[.int .u8 tos, .int .u16 id, .bool keep, .int .u8 ttl, .int .u8 1, .int .u32 src, .int .u32 dst, so, .slice ad zd.length cd] 26)).alloc (.cells #[.int .u8 0, .int .u16 0, .bool false, .int .u8 0, .int .u8 0, .int .u32 0, .int .u32 0, .slice none 0 0, .slice none 0 0] 26)).alloc (.cells #[.int .u8 0, .int .u32 0, .int .u32 0, .int .u16 0, .int .u16 0] 29)) = w0 at *
 refine (rparseIcmp_any tos id ttl 1 src dst keep _ _ zd w0 hB ((hI.below hb0).mono hb0.size) hl).mono ?_
 rintro e w1 ⟨hb1, ⟨hf, rfl⟩ | ⟨hf, a1, c1, rfl, hO⟩⟩
 ·exact absurd hpi hf
 ·clear hf
  have la : Later w1 (w1.alloc (.cells #[.int .u8 (zd[0]?.getD 0), .int .u8 (zd[1]?.getD 0), .int .u32 (wat4 zd 4), .slice a1 (zd.length - 8) c1] 42)) := (Below.refl _ _).alloc (Nat.le_refl _) _
  have l1 := Later.trans hb1 la
  have mW := heap_alloc_new w1 (.cells #[.int .u8 (zd[0]?.getD 0), .int .u8 (zd[1]?.getD 0), .int .u32 (wat4 zd 4), .slice a1 (zd.length - 8) c1] 42)
  have rW := later_keep l1 R0.out
  have sW := later_keep l1 S0.out
  have hwW := hb0.trans (l1.mono hb0.size)
  have DW := hO.ck (CK.of la)
  go_wp2_with fail
  generalize w1.alloc (.cells #[.int .u8 (zd[0]?.getD 0), .int .u8 (zd[1]?.getD 0), .int .u32 (wat4 zd 4), .slice a1 (zd.length - 8) c1] 42) = W at *
  generalize w1.heap.size = gm at *
  refine (risError_any (zd[0]?.getD 0) (zd[1]?.getD 0) (wat4 zd 4) _ W).mono ?_
  rw [show (zd[0]?.getD 0 == 3 || (zd[0]?.getD 0 == 11 || zd[0]?.getD 0 == 12)) = true from her]
  rintro e w2 ⟨rfl, hb2⟩
  have l2 : Later W w2 := hb2
  have r2 := later_keep l2 rW
  have s2 := later_keep l2 sW
  have hw2 := hwW.trans (hb2.mono hwW.size)
  have km := block_cell (later_keep l2 mW)
  have D2 := DW.ck (CK.of l2)
  go_wp2_with fail
  clear km
  refine (rquote_any _ (zd.drop 8) w2 (hB.drop 8) (by simp; omega) D2.rd).mono ?_
  rintro e w3 ⟨hb3, ⟨hf3, _⟩ | ⟨_, qo, qs0, rfl, hO3, hD3⟩⟩
  ·exact absurd hrd hf3
  obtain ⟨b7, c7, rfl, _, _⟩ := hO3.slice
  obtain ⟨b8, c8, rfl, hc8, hc9⟩ := hD3.slice
  have hBq := By_qdt (hB.drop 8)
  unfold pkt
  have HPR := hide hpr
  rw [hpr]
  clear hpr hpi her hrd
  generalize (zd.drop 8)[1]?.getD 0 = q1 at *
  generalize wat (zd.drop 8) 4 = q2 at *
  generalize decide (16384 ≤ wat (zd.drop 8) 6 % 32768) = q3 at *
  generalize (zd.drop 8)[8]?.getD 0 = q4 at *
  generalize hqs : wat4 (zd.drop 8) 12 = qs at *
  generalize hqd : wat4 (zd.drop 8) 16 = qd at *
  have HQS := hide hqs
  have HQD := hide hqd
  clear hqs hqd
  generalize hl7 : (((zd.drop 8).take (hl4 (zd.drop 8)).toNat).drop 20).length = l7 at *
  have HL7 := hide hl7
  clear hl7
  clear hO3
  rw [show ((zd.drop 8).take (ral true (zd.drop 8)).toNat).drop (hl4 (zd.drop 8)).toNat = qdt (zd.drop 8) from rfl] at hD3 hc8 ⊢
  generalize hdq : qdt (zd.drop 8) = dq at *
  have HDQ := hide hdq
  clear hdq
  have la3 : Later w3 (w3.alloc (.cells #[.int .u8 q1, .int .u16 q2, .bool q3, .int .u8 q4, .int .u8 pr, .int .u32 qs, .int .u32 qd, .slice b7 l7 c7, .slice b8 dq.length c8] 26)) := (Below.refl _ _).alloc (Nat.le_refl _) _
  have lb3 : Later (w3.alloc (.cells #[.int .u8 q1, .int .u16 q2, .bool q3, .int .u8 q4, .int .u8 pr, .int .u32 qs, .int .u32 qd, .slice b7 l7 c7, .slice b8 dq.length c8] 26)) ((w3.alloc (.cells #[.int .u8 q1, .int .u16 q2, .bool q3, .int .u8 q4, .int .u8 pr, .int .u32 qs, .int .u32 qd, .slice b7 l7 c7, .slice b8 dq.length c8] 26)).alloc (.cells #[.int .u8 pr, .int .u32 qs, .int .u32 qd, .int .u16 0, .int .u16 0] 29)) := (Below.refl _ _).alloc (Nat.le_refl _) _
  have lab := la3.trans lb3
  have l3 := Later.trans hb3 lab
  have qk := later_keep lb3 (heap_alloc_new w3 (.cells #[.int .u8 q1, .int .u16 q2, .bool q3, .int .u8 q4, .int .u8 pr, .int .u32 qs, .int .u32 qd, .slice b7 l7 c7, .slice b8 dq.length c8] 26))
  have tk := heap_alloc_new (w3.alloc (.cells #[.int .u8 q1, .int .u16 q2, .bool q3, .int .u8 q4, .int .u8 pr, .int .u32 qs, .int .u32 qd, .slice b7 l7 c7, .slice b8 dq.length c8] 26)) (.cells #[.int .u8 pr, .int .u32 qs, .int .u32 qd, .int .u16 0, .int .u16 0] 29)
  rw [World.size_alloc] at tk
  have r3 := later_keep l3 r2
  have s3 := later_keep l3 s2
  have hw3 := hw2.trans (l3.mono hw2.size)
  have D3 := hD3.ck (CK.of lab)
  have hgq : w.heap.size + 1 + 1 < w3.heap.size := Nat.lt_of_lt_of_le (Array.getElem?_eq_some_iff.1 s2).1 hb3.size
  clear D2 hD3
  have HLQ : Hid (8 ≤ dq.length) := h8
  have hq6 : (pr == 6) = true := by simp [hp]
  have hq17 : (pr == 17) = false := by simp [hp]
  have HP := hide hp
  clear hp
  have kq := block_cell qk
  go_upto_region 16 with fail
  generalize (w3.alloc (.cells #[.int .u8 q1, .int .u16 q2, .bool q3, .int .u8 q4, .int .u8 pr, .int .u32 qs, .int .u32 qd, .slice b7 l7 c7, .slice b8 dq.length c8] 26)).alloc (.cells #[.int .u8 pr, .int .u32 qs, .int .u32 qd, .int .u16 0, .int .u16 0] 29) = w4 at *
  generalize w3.heap.size = gq at *
  clear hq6 hq17 kq
  refine anyT_begin (R := But (fun b => b = gq + 1)) 10 rfl (by kernel_rfl) ?_
  have ld : Later w4 w4.drew := Later.drew w4
  have qWd := later_keep ld qk
  have tWd := later_keep ld tk
  have DWd := D3.ck (CK.of ld)
  generalize w4.drew = Wd at *
  have ha : ∀ v1, But (fun b => b = gq + 1) Wd v1 → ∀ i, v1.cell? ⟨gq, i, none⟩ = #[Value.int .u8 q1, .int .u16 q2, .bool q3, .int .u8 q4, .int .u8 pr, .int .u32 qs, .int .u32 qd, .slice b7 l7 c7, .slice b8 dq.length c8][i]? := fun v1 h => block_cell ((h.block gq (Array.getElem?_eq_some_iff.1 qWd).1 (by omega)).trans qWd)
  refine anyT_val (But.pre _) 0 rfl (by kernel_rfl) (by kernel_rfl) (by kernel_rfl) (fun _ _ _ _ h => h) rfl ?_; apply Exists.intro; refine ⟨fun v1 hv1 => ?_, ?_⟩; (· (go_simp; rfl)); simp only [Act.put, sA, sB, sC]
  refine anyT_val (But.pre _) 1 rfl (by kernel_rfl) (by kernel_rfl) (by kernel_rfl) (fun _ _ _ _ h => h) rfl ?_; apply Exists.intro; refine ⟨fun v1 hv1 => ?_, ?_⟩; (· (go_simp; rfl)); simp only [Act.put, sA, sB, sC]
  refine anyT_val (But.pre _) 3 rfl (by kernel_rfl) (by kernel_rfl) (by kernel_rfl) (fun _ _ _ _ h => h) rfl ?_; apply Exists.intro; refine ⟨fun v1 hv1 => ?_, ?_⟩; (· (go_simp; rfl)); simp only [Act.put, sA, sB, sC]
  refine anyT_val (But.pre _) 4 rfl (by kernel_rfl) (by kernel_rfl) (by kernel_rfl) (fun _ _ _ _ h => h) rfl ?_; apply Exists.intro; refine ⟨fun v1 hv1 => ?_, ?_⟩; (· (go_simp; rfl)); simp only [Act.put, sA, sB, sC]
  clear ha
  refine anyT_one 2 rfl (by kernel_rfl) rfl ?_
  refine wp_enter 62 #[.slice b8 dq.length c8, .int .i64 0] (by go_simp) ?_
  refine (rget16_at _ dq hBq 0 (by omega) hld Wd DWd.rd).mono ?_
  rintro e W5 ⟨rfl, nW5, eW5⟩
  have lW5 : Later Wd W5 := by rw [eW5]; exact below_draw (Later.refl Wd) nW5
  clear eW5
  have tW5 := later_keep lW5 tWd
  have DW5 := DWd.ck (CK.of lW5)
  refine ⟨But.of lW5, ?_⟩
  simp only [Act.put, sA, sB, sC]
  refine anyT_val (But.pre _) 6 rfl (by kernel_rfl) (by kernel_rfl) (by kernel_rfl) (fun _ _ _ _ h => h) rfl ?_; apply Exists.intro; refine ⟨fun v1 hv1 => ?_, ?_⟩; (· (go_simp; rfl)); simp only [Act.put, sA, sB, sC]
  refine anyT_one 5 rfl (by kernel_rfl) rfl ?_
  refine wp_enter 62 #[.slice b8 dq.length c8, .int .i64 2] (by go_simp) ?_
  refine (rget16_at _ dq hBq 2 (by omega) hld W5 DW5.rd).mono ?_
  rintro e W6 ⟨rfl, nW6, eW6⟩
  have lW6 : Later W5 W6 := by rw [eW6]; exact below_draw (Later.refl W5) nW6
  clear eW6
  have tW6 := later_keep lW6 tW5
  have DW6 := DW5.ck (CK.of lW6)
  refine ⟨But.of lW6, ?_⟩
  simp only [Act.put, sA, sB, sC]
  generalize hg0 : getAt2 dq 0 = g0 at *
  generalize hg2 : getAt2 dq 2 = g2 at *
  have HG0 := hide hg0
  have HG2 := hide hg2
  clear hg0 hg2
  have kx := block_cell tW6
  have fx := block_frozen tW6
  refine anyT_one 7 rfl (by kernel_rfl) rfl ?_
  unfold Oper.wp
  go_simp
  generalize hV : W6.setCell ⟨gq + 1, 3, none⟩ _ = V7
  have tV := heap_set1 tW6 3 (.int .u16 g0)
  rw [hV] at tV
  have hbV7 : But (fun b => b = gq + 1) W6 V7 := by rw [← hV]; exact (But.refl (fun b => b = gq + 1) _).setCell (p := ⟨gq + 1, 3, none⟩) rfl _
  refine ⟨hbV7, ?_⟩
  clear hV kx fx
  simp only [List.setIfInBounds_toArray, List.set_cons_zero, List.set_cons_succ] at tV
  refine anyT_val (But.pre _) 8 rfl (by kernel_rfl) (by kernel_rfl) (by kernel_rfl) (fun _ _ _ _ h => h) rfl ?_; apply Exists.intro; refine ⟨fun v1 hv1 => ?_, ?_⟩; (· (go_simp; rfl)); simp only [Act.put, sA, sB, sC]
  have kx := block_cell tV
  have fx := block_frozen tV
  refine anyT_one 9 rfl (by kernel_rfl) rfl ?_
  unfold Oper.wp
  go_simp
  generalize hV : V7.setCell ⟨gq + 1, 4, none⟩ _ = V8
  have tN := heap_set1 tV 4 (.int .u16 g2)
  rw [hV] at tN
  have hbV8 : But (fun b => b = gq + 1) V7 V8 := by rw [← hV]; exact (But.refl (fun b => b = gq + 1) _).setCell (p := ⟨gq + 1, 4, none⟩) rfl _
  refine ⟨hbV8, ?_⟩
  clear hV kx fx
  simp only [List.setIfInBounds_toArray, List.set_cons_zero, List.set_cons_succ] at tN
  refine anyT_done (by kernel_rfl) ?_
  have hbN : But (fun b => b = gq + 1) w4 V8 := (But.of (ld.trans (lW5.trans lW6))).trans (hbV7.trans hbV8)
  have qN := (hbN.block gq (Array.getElem?_eq_some_iff.1 qk).1 (by omega)).trans qk
  have rN := (hbN.block (w.heap.size + 1) (Array.getElem?_eq_some_iff.1 r3).1 (by omega)).trans r3
  have sN := (hbN.block (w.heap.size + 1 + 1) (Array.getElem?_eq_some_iff.1 s3).1 (by omega)).trans s3
  have hwN : Below w.heap.size w V8 := hw3.trans (hbN.below hw3.size (fun k hk e => by omega))
  clear ld
  go_upto_region 26 with fail
  refine anyT_begin (R := But (fun b => b = w.heap.size + 1 ∨ b = w.heap.size + 1 + 1)) 5 rfl (by kernel_rfl) ?_
  have ld : Later V8 V8.drew := Later.drew V8
  have qd0 := later_keep ld qN
  have td0 := later_keep ld tN
  have rd0 := later_keep ld rN
  have sd0 := later_keep ld sN
  have hwd := hwN.trans (ld.mono hwN.size)
  generalize V8.drew = Wd at *
  have ha : ∀ v1, But (fun b => b = w.heap.size + 1 ∨ b = w.heap.size + 1 + 1) Wd v1 → ∀ i, v1.cell? ⟨gq, i, none⟩ = #[Value.int .u8 q1, .int .u16 q2, .bool q3, .int .u8 q4, .int .u8 pr, .int .u32 qs, .int .u32 qd, .slice b7 l7 c7, .slice b8 dq.length c8][i]? := fun v1 h => block_cell ((h.block gq (Array.getElem?_eq_some_iff.1 qd0).1 (by omega)).trans qd0)
  have hb : ∀ v1, But (fun b => b = w.heap.size + 1 ∨ b = w.heap.size + 1 + 1) Wd v1 → ∀ i, v1.cell? ⟨gq + 1, i, none⟩ = #[Value.int .u8 pr, .int .u32 qs, .int .u32 qd, .int .u16 g0, .int .u16 g2][i]? := fun v1 h => block_cell ((h.block (gq + 1) (Array.getElem?_eq_some_iff.1 td0).1 (by omega)).trans td0)
  refine anyT_val (But.pre _) 0 rfl (by kernel_rfl) (by kernel_rfl) (by kernel_rfl) (fun _ _ _ _ h => h) rfl ?_; apply Exists.intro; refine ⟨fun v1 hv1 => ?_, ?_⟩; (· (go_simp; rfl)); simp only [Act.put, sA, sB, sC]
  refine anyT_val (But.pre _) 1 rfl (by kernel_rfl) (by kernel_rfl) (by kernel_rfl) (fun _ _ _ _ h => h) rfl ?_; apply Exists.intro; refine ⟨fun v1 hv1 => ?_, ?_⟩; (· (go_simp; rfl)); simp only [Act.put, sA, sB, sC]
  clear ha hb
  have kx := block_cell rd0
  have fx := block_frozen rd0
  refine anyT_one 2 rfl (by kernel_rfl) rfl ?_
  unfold Oper.wp
  go_simp
  generalize hV1 : ((((((((Wd.setCell ⟨w.heap.size + 1, 0, none⟩ _).setCell ⟨w.heap.size + 1, 1, none⟩ _).setCell ⟨w.heap.size + 1, 2, none⟩ _).setCell ⟨w.heap.size + 1, 3, none⟩ _).setCell ⟨w.heap.size + 1, 4, none⟩ _).setCell ⟨w.heap.size + 1, 5, none⟩ _).setCell ⟨w.heap.size + 1, 6, none⟩ _).setCell ⟨w.heap.size + 1, 7, none⟩ _).setCell ⟨w.heap.size + 1, 8, none⟩ _ = Y0
  have hV9 : Y0 = putRow Wd (w.heap.size + 1) 0 [.int .u8 q1, .int .u16 q2, .bool q3, .int .u8 q4, .int .u8 pr, .int .u32 qs, .int .u32 qd, .slice b7 l7 c7, .slice b8 dq.length c8] := hV1.symm
  have hbY0 : But (fun b => b = w.heap.size + 1) Wd Y0 := by rw [hV9]; exact putRow_but (E := fun b => b = w.heap.size + 1) (n := w.heap.size + 1) rfl _ _ _ _ (But.refl _ _)
  have hbY1 : But (fun b => b = w.heap.size + 1 ∨ b = w.heap.size + 1 + 1) Wd Y0 := by rw [hV9]; exact putRow_but (E := fun b => b = w.heap.size + 1 ∨ b = w.heap.size + 1 + 1) (n := w.heap.size + 1) (.inl rfl) _ _ _ _ (But.refl _ _)
  have pY0 := putRow_all ([.int .u8 q1, .int .u16 q2, .bool q3, .int .u8 q4, .int .u8 pr, .int .u32 qs, .int .u32 qd, .slice b7 l7 c7, .slice b8 dq.length c8] : List Value) rd0 rfl
  rw [← hV9] at pY0
  have sY0 := (hbY0.block (w.heap.size + 1 + 1) (Array.getElem?_eq_some_iff.1 sd0).1 (by omega)).trans sd0
  refine ⟨hbY1, ?_⟩
  clear hV1 hV9 kx fx
  have kx := block_cell sY0
  have fx := block_frozen sY0
  refine anyT_one 3 rfl (by kernel_rfl) rfl ?_
  unfold Oper.wp
  go_simp
  generalize hV2 : ((((Y0.setCell ⟨w.heap.size + 1 + 1, 0, none⟩ _).setCell ⟨w.heap.size + 1 + 1, 1, none⟩ _).setCell ⟨w.heap.size + 1 + 1, 2, none⟩ _).setCell ⟨w.heap.size + 1 + 1, 3, none⟩ _).setCell ⟨w.heap.size + 1 + 1, 4, none⟩ _ = V
  have hV8 : V = putRow Y0 (w.heap.size + 1 + 1) 0 [.int .u8 pr, .int .u32 qs, .int .u32 qd, .int .u16 g0, .int .u16 g2] := hV2.symm
  have hbV : But (fun b => b = w.heap.size + 1 + 1) Y0 V := by rw [hV8]; exact putRow_but (E := fun b => b = w.heap.size + 1 + 1) (n := w.heap.size + 1 + 1) rfl _ _ _ _ (But.refl _ _)
  have hbV1 : But (fun b => b = w.heap.size + 1 ∨ b = w.heap.size + 1 + 1) Y0 V := by rw [hV8]; exact putRow_but (E := fun b => b = w.heap.size + 1 ∨ b = w.heap.size + 1 + 1) (n := w.heap.size + 1 + 1) (.inr rfl) _ _ _ _ (But.refl _ _)
  have qV := putRow_all ([.int .u8 pr, .int .u32 qs, .int .u32 qd, .int .u16 g0, .int .u16 g2] : List Value) sY0 rfl
  rw [← hV8] at qV
  have pV := (hbV.block (w.heap.size + 1) (Array.getElem?_eq_some_iff.1 pY0).1 (by omega)).trans pY0
  refine ⟨hbV1, ?_⟩
  clear hV2 hV8 kx fx
  refine anyT_one 4 rfl (by kernel_rfl) rfl ?_
  unfold Oper.wp
  go_simp
  refine ⟨But.refl _ _, ?_⟩
  refine anyT_done (by kernel_rfl) ?_
  have PV := block_cell pV
  have QV := block_cell qV
  have hwV : Below w.heap.size w V := (hwd.trans (hbY0.below hwd.size (fun k hk e => by omega))).trans (hbV.below (Nat.le_trans hwd.size hbY0.size) (fun k hk e => by omega))
  go_wp2_with fail
  exact bodyPost_ret (v := .tuple #[.agg #[.int .u8 q1, .int .u16 q2, .bool q3, .int .u8 q4, .int .u8 pr, .int .u32 qs, .int .u32 qd, .slice b7 l7 c7, .slice b8 dq.length c8], .agg #[.int .u8 pr, .int .u32 qs, .int .u32 qd, .int .u16 g0, .int .u16 g2], .int .i64 0]) (by simp [results, Tryz.results20, go_sem, PV, QV]) rfl ⟨hwV, by rw [HDQ.out, HG0.out, HG2.out, HQS.out, HQD.out]; exact rin_yes _ _ _ _ _ _ _ _ _ _ _ _ _ _ _ ⟨HPR.out.symm, HL7.out.symm, by rw [HDQ.out]⟩⟩

set_option maxHeartbeats 8000000 in
theorem rinner_udp (pr : Int) (tos id ttl src dst : Int) (keep : Bool) (so sd : Value) (zd : List Int) (w : World) (hB : Mt.By zd) (hI : Rd w.heap.size w sd zd) (hl : zd.length ≤ 1099511627776) (hpi : pie 1 zd = 0) (her : erb (zd[0]?.getD 0) = true) (hrd : rde true (zd.drop 8) = 0) (hpr : (zd.drop 8)[9]?.getD 0 = pr) (h8 : 8 ≤ (qdt (zd.drop 8)).length) (hld : (qdt (zd.drop 8)).length ≤ 140737488355328) (hp : pr = 17) : Calls Tryz.prog 20 #[.agg #[.int .u8 tos, .int .u16 id, .bool keep, .int .u8 ttl, .int .u8 1, .int .u32 src, .int .u32 dst, so, sd]] w fun e w' => Below w.heap.size w w' ∧ rin zd (.agg #[.int .u8 pr, .int .u32 (wat4 (zd.drop 8) 12), .int .u32 (wat4 (zd.drop 8) 16), .int .u16 (getAt2 (qdt (zd.drop 8)) 0), .int .u16 (getAt2 (qdt (zd.drop 8)) 2)]) 0 e := by
 obtain ⟨ad, cd, rfl, _, _⟩ := hI.slice
 have hb0 : Below w.heap.size w (((w.alloc (.cells #[.int .u8 tos, .int .u16 id, .bool keep, .int .u8 ttl, .int .u8 1, .int .u32 src, .int .u32 dst, so, .slice ad zd.length cd] 26)).alloc (.cells #[.int .u8 0, .int .u16 0, .bool false, .int .u8 0, .int .u8 0, .int .u32 0, .int .u32 0, .slice none 0 0, .slice none 0 0] 26)).alloc (.cells #[.int .u8 0, .int .u32 0, .int .u32 0, .int .u16 0, .int .u16 0] 29)) := ((((Below.refl _ _).alloc (Nat.le_refl _) _).alloc (by simp) _).alloc (by simp <;> omega) _)
 have r0 : (((w.alloc (.cells #[.int .u8 tos, .int .u16 id, .bool keep, .int .u8 ttl, .int .u8 1, .int .u32 src, .int .u32 dst, so, .slice ad zd.length cd] 26)).alloc (.cells #[.int .u8 0, .int .u16 0, .bool false, .int .u8 0, .int .u8 0, .int .u32 0, .int .u32 0, .slice none 0 0, .slice none 0 0] 26)).alloc (.cells #[.int .u8 0, .int .u32 0, .int .u32 0, .int .u16 0, .int .u16 0] 29)).heap[w.heap.size + 1]? = some (.cells #[.int .u8 0, .int .u16 0, .bool false, .int .u8 0, .int .u8 0, .int .u32 0, .int .u32 0, .slice none 0 0, .slice none 0 0] 26) := by
  have := heap_alloc_new (w.alloc (.cells #[.int .u8 tos, .int .u16 id, .bool keep, .int .u8 ttl, .int .u8 1, .int .u32 src, .int .u32 dst, so, .slice ad zd.length cd] 26)) (.cells #[.int .u8 0, .int .u16 0, .bool false, .int .u8 0, .int .u8 0, .int .u32 0, .int .u32 0, .slice none 0 0, .slice none 0 0] 26)
  rw [World.size_alloc] at this
  exact (Below.heap_alloc _ _ _ (by simp)).trans this
 have s0 : (((w.alloc (.cells #[.int .u8 tos, .int .u16 id, .bool keep, .int .u8 ttl, .int .u8 1, .int .u32 src, .int .u32 dst, so, .slice ad zd.length cd] 26)).alloc (.cells #[.int .u8 0, .int .u16 0, .bool false, .int .u8 0, .int .u8 0, .int .u32 0, .int .u32 0, .slice none 0 0, .slice none 0 0] 26)).alloc (.cells #[.int .u8 0, .int .u32 0, .int .u32 0, .int .u16 0, .int .u16 0] 29)).heap[w.heap.size + 1 + 1]? = some (.cells #[.int .u8 0, .int .u32 0, .int .u32 0, .int .u16 0, .int .u16 0] 29) := by
  have := heap_alloc_new ((w.alloc (.cells #[.int .u8 tos, .int .u16 id, .bool keep, .int .u8 ttl, .int .u8 1, .int .u32 src, .int .u32 dst, so, .slice ad zd.length cd] 26)).alloc (.cells #[.int .u8 0, .int .u16 0, .bool false, .int .u8 0, .int .u8 0, .int .u32 0, .int .u32 0, .slice none 0 0, .slice none 0 0] 26)) (.cells #[.int .u8 0, .int .u32 0, .int .u32 0, .int .u16 0, .int .u16 0] 29)
  simpa only [World.size_alloc] using this
 have R0 := hide r0
 have S0 := hide s0
 clear r0 s0
 go_enter Tryz.func20, Tryz.ntmps20
 go_wp2_with fail
 generalize (((w.alloc (.cells #[.int .u8 tos, .int .u16 id, .bool keep, .int .u8 ttl, .int .u8 1, .int .u32 src, .int .u32 dst, so, .slice ad zd.length cd] 26)).alloc (.cells #[.int .u8 0, .int .u16 0, .bool false, .int .u8 0, .int .u8 0, .int .u32 0, .int .u32 0, .slice none 0 0, .slice none 0 0] 26)).alloc (.cells #[.int .u8 0, .int .u32 0, .int .u32 0, .int .u16 0, .int .u16 0] 29)) = w0 at *
 refine (rparseIcmp_any tos id ttl 1 src dst keep _ _ zd w0 hB ((hI.below hb0).mono hb0.size) hl).mono ?_
 rintro e w1 ⟨hb1, ⟨hf, rfl⟩ | ⟨hf, a1, c1, rfl, hO⟩⟩
 ·exact absurd hpi hf
 ·clear hf
  have la : Later w1 (w1.alloc (.cells #[.int .u8 (zd[0]?.getD 0), .int .u8 (zd[1]?.getD 0), .int .u32 (wat4 zd 4), .slice a1 (zd.length - 8) c1] 42)) := (Below.refl _ _).alloc (Nat.le_refl _) _
  have l1 := Later.trans hb1 la
  have mW := heap_alloc_new w1 (.cells #[.int .u8 (zd[0]?.getD 0), .int .u8 (zd[1]?.getD 0), .int .u32 (wat4 zd 4), .slice a1 (zd.length - 8) c1] 42)
  have rW := later_keep l1 R0.out
  have sW := later_keep l1 S0.out
  have hwW := hb0.trans (l1.mono hb0.size)
  have DW := hO.ck (CK.of la)
  go_wp2_with fail
  generalize w1.alloc (.cells #[.int .u8 (zd[0]?.getD 0), .int .u8 (zd[1]?.getD 0), .int .u32 (wat4 zd 4), .slice a1 (zd.length - 8) c1] 42) = W at *
  generalize w1.heap.size = gm at *
  refine (risError_any (zd[0]?.getD 0) (zd[1]?.getD 0) (wat4 zd 4) _ W).mono ?_
  rw [show (zd[0]?.getD 0 == 3 || (zd[0]?.getD 0 == 11 || zd[0]?.getD 0 == 12)) = true from her]
  rintro e w2 ⟨rfl, hb2⟩
  have l2 : Later W w2 := hb2
  have r2 := later_keep l2 rW
  have s2 := later_keep l2 sW
  have hw2 := hwW.trans (hb2.mono hwW.size)
  have km := block_cell (later_keep l2 mW)
  have D2 := DW.ck (CK.of l2)
  go_wp2_with fail
  clear km
  refine (rquote_any _ (zd.drop 8) w2 (hB.drop 8) (by simp; omega) D2.rd).mono ?_
  rintro e w3 ⟨hb3, ⟨hf3, _⟩ | ⟨_, qo, qs0, rfl, hO3, hD3⟩⟩
  ·exact absurd hrd hf3
  obtain ⟨b7, c7, rfl, _, _⟩ := hO3.slice
  obtain ⟨b8, c8, rfl, hc8, hc9⟩ := hD3.slice
  have hBq := By_qdt (hB.drop 8)
  unfold pkt
  have HPR := hide hpr
  rw [hpr]
  clear hpr hpi her hrd
  generalize (zd.drop 8)[1]?.getD 0 = q1 at *
  generalize wat (zd.drop 8) 4 = q2 at *
  generalize decide (16384 ≤ wat (zd.drop 8) 6 % 32768) = q3 at *
  generalize (zd.drop 8)[8]?.getD 0 = q4 at *
  generalize hqs : wat4 (zd.drop 8) 12 = qs at *
  generalize hqd : wat4 (zd.drop 8) 16 = qd at *
  have HQS := hide hqs
  have HQD := hide hqd
  clear hqs hqd
  generalize hl7 : (((zd.drop 8).take (hl4 (zd.drop 8)).toNat).drop 20).length = l7 at *
  have HL7 := hide hl7
  clear hl7
  clear hO3
  rw [show ((zd.drop 8).take (ral true (zd.drop 8)).toNat).drop (hl4 (zd.drop 8)).toNat = qdt (zd.drop 8) from rfl] at hD3 hc8 ⊢
  generalize hdq : qdt (zd.drop 8) = dq at *
  have HDQ := hide hdq
  clear hdq
  have la3 : Later w3 (w3.alloc (.cells #[.int .u8 q1, .int .u16 q2, .bool q3, .int .u8 q4, .int .u8 pr, .int .u32 qs, .int .u32 qd, .slice b7 l7 c7, .slice b8 dq.length c8] 26)) := (Below.refl _ _).alloc (Nat.le_refl _) _
  have lb3 : Later (w3.alloc (.cells #[.int .u8 q1, .int .u16 q2, .bool q3, .int .u8 q4, .int .u8 pr, .int .u32 qs, .int .u32 qd, .slice b7 l7 c7, .slice b8 dq.length c8] 26)) ((w3.alloc (.cells #[.int .u8 q1, .int .u16 q2, .bool q3, .int .u8 q4, .int .u8 pr, .int .u32 qs, .int .u32 qd, .slice b7 l7 c7, .slice b8 dq.length c8] 26)).alloc (.cells #[.int .u8 pr, .int .u32 qs, .int .u32 qd, .int .u16 0, .int .u16 0] 29)) := (Below.refl _ _).alloc (Nat.le_refl _) _
  have lab := la3.trans lb3
  have l3 := Later.trans hb3 lab
  have qk := later_keep lb3 (heap_alloc_new w3 (.cells #[.int .u8 q1, .int .u16 q2, .bool q3, .int .u8 q4, .int .u8 pr, .int .u32 qs, .int .u32 qd, .slice b7 l7 c7, .slice b8 dq.length c8] 26))
  have tk := heap_alloc_new (w3.alloc (.cells #[.int .u8 q1, .int .u16 q2, .bool q3, .int .u8 q4, .int .u8 pr, .int .u32 qs, .int .u32 qd, .slice b7 l7 c7, .slice b8 dq.length c8] 26)) (.cells #[.int .u8 pr, .int .u32 qs, .int .u32 qd, .int .u16 0, .int .u16 0] 29)
  rw [World.size_alloc] at tk
  have r3 := later_keep l3 r2
  have s3 := later_keep l3 s2
  have hw3 := hw2.trans (l3.mono hw2.size)
  have D3 := hD3.ck (CK.of lab)
  have hgq : w.heap.size + 1 + 1 < w3.heap.size := Nat.lt_of_lt_of_le (Array.getElem?_eq_some_iff.1 s2).1 hb3.size
  clear D2 hD3
  have HLQ : Hid (8 ≤ dq.length) := h8
  have hq6 : (pr == 6) = false := by simp [hp]
  have hq17 : (pr == 17) = true := by simp [hp]
  have HP := hide hp
  clear hp
  have kq := block_cell qk
  go_upto_region 16 with fail
  generalize (w3.alloc (.cells #[.int .u8 q1, .int .u16 q2, .bool q3, .int .u8 q4, .int .u8 pr, .int .u32 qs, .int .u32 qd, .slice b7 l7 c7, .slice b8 dq.length c8] 26)).alloc (.cells #[.int .u8 pr, .int .u32 qs, .int .u32 qd, .int .u16 0, .int .u16 0] 29) = w4 at *
  generalize w3.heap.size = gq at *
  clear hq6 hq17 kq
  refine anyT_begin (R := But (fun b => b = gq + 1)) 10 rfl (by kernel_rfl) ?_
  have ld : Later w4 w4.drew := Later.drew w4
  have qWd := later_keep ld qk
  have tWd := later_keep ld tk
  have DWd := D3.ck (CK.of ld)
  generalize w4.drew = Wd at *
  have ha : ∀ v1, But (fun b => b = gq + 1) Wd v1 → ∀ i, v1.cell? ⟨gq, i, none⟩ = #[Value.int .u8 q1, .int .u16 q2, .bool q3, .int .u8 q4, .int .u8 pr, .int .u32 qs, .int .u32 qd, .slice b7 l7 c7, .slice b8 dq.length c8][i]? := fun v1 h => block_cell ((h.block gq (Array.getElem?_eq_some_iff.1 qWd).1 (by omega)).trans qWd)
  refine anyT_val (But.pre _) 0 rfl (by kernel_rfl) (by kernel_rfl) (by kernel_rfl) (fun _ _ _ _ h => h) rfl ?_; apply Exists.intro; refine ⟨fun v1 hv1 => ?_, ?_⟩; (· (go_simp; rfl)); simp only [Act.put, sA, sB, sC]
  refine anyT_val (But.pre _) 1 rfl (by kernel_rfl) (by kernel_rfl) (by kernel_rfl) (fun _ _ _ _ h => h) rfl ?_; apply Exists.intro; refine ⟨fun v1 hv1 => ?_, ?_⟩; (· (go_simp; rfl)); simp only [Act.put, sA, sB, sC]
  refine anyT_val (But.pre _) 3 rfl (by kernel_rfl) (by kernel_rfl) (by kernel_rfl) (fun _ _ _ _ h => h) rfl ?_; apply Exists.intro; refine ⟨fun v1 hv1 => ?_, ?_⟩; (· (go_simp; rfl)); simp only [Act.put, sA, sB, sC]
  refine anyT_val (But.pre _) 4 rfl (by kernel_rfl) (by kernel_rfl) (by kernel_rfl) (fun _ _ _ _ h => h) rfl ?_; apply Exists.intro; refine ⟨fun v1 hv1 => ?_, ?_⟩; (· (go_simp; rfl)); simp only [Act.put, sA, sB, sC]
  clear ha
  refine anyT_one 2 rfl (by kernel_rfl) rfl ?_
  refine wp_enter 62 #[.slice b8 dq.length c8, .int .i64 0] (by go_simp) ?_
  refine (rget16_at _ dq hBq 0 (by omega) hld Wd DWd.rd).mono ?_
  rintro e W5 ⟨rfl, nW5, eW5⟩
  have lW5 : Later Wd W5 := by rw [eW5]; exact below_draw (Later.refl Wd) nW5
  clear eW5
  have tW5 := later_keep lW5 tWd
  have DW5 := DWd.ck (CK.of lW5)
  refine ⟨But.of lW5, ?_⟩
  simp only [Act.put, sA, sB, sC]
  refine anyT_val (But.pre _) 6 rfl (by kernel_rfl) (by kernel_rfl) (by kernel_rfl) (fun _ _ _ _ h => h) rfl ?_; apply Exists.intro; refine ⟨fun v1 hv1 => ?_, ?_⟩; (· (go_simp; rfl)); simp only [Act.put, sA, sB, sC]
  refine anyT_one 5 rfl (by kernel_rfl) rfl ?_
  refine wp_enter 62 #[.slice b8 dq.length c8, .int .i64 2] (by go_simp) ?_
  refine (rget16_at _ dq hBq 2 (by omega) hld W5 DW5.rd).mono ?_
  rintro e W6 ⟨rfl, nW6, eW6⟩
  have lW6 : Later W5 W6 := by rw [eW6]; exact below_draw (Later.refl W5) nW6
  clear eW6
  have tW6 := later_keep lW6 tW5
  have DW6 := DW5.ck (CK.of lW6)
  refine ⟨But.of lW6, ?_⟩
  simp only [Act.put, sA, sB, sC]
  generalize hg0 : getAt2 dq 0 = g0 at *
  generalize hg2 : getAt2 dq 2 = g2 at *
  have HG0 := hide hg0
  have HG2 := hide hg2
  clear hg0 hg2
  have kx := block_cell tW6
  have fx := block_frozen tW6
  refine anyT_one 7 rfl (by kernel_rfl) rfl ?_
  unfold Oper.wp
  go_simp
  generalize hV : W6.setCell ⟨gq + 1, 3, none⟩ _ = V7
  have tV := heap_set1 tW6 3 (.int .u16 g0)
  rw [hV] at tV
  have hbV7 : But (fun b => b = gq + 1) W6 V7 := by rw [← hV]; exact (But.refl (fun b => b = gq + 1) _).setCell (p := ⟨gq + 1, 3, none⟩) rfl _
  refine ⟨hbV7, ?_⟩
  clear hV kx fx
  simp only [List.setIfInBounds_toArray, List.set_cons_zero, List.set_cons_succ] at tV
  refine anyT_val (But.pre _) 8 rfl (by kernel_rfl) (by kernel_rfl) (by kernel_rfl) (fun _ _ _ _ h => h) rfl ?_; apply Exists.intro; refine ⟨fun v1 hv1 => ?_, ?_⟩; (· (go_simp; rfl)); simp only [Act.put, sA, sB, sC]
  have kx := block_cell tV
  have fx := block_frozen tV
  refine anyT_one 9 rfl (by kernel_rfl) rfl ?_
  unfold Oper.wp
  go_simp
  generalize hV : V7.setCell ⟨gq + 1, 4, none⟩ _ = V8
  have tN := heap_set1 tV 4 (.int .u16 g2)
  rw [hV] at tN
  have hbV8 : But (fun b => b = gq + 1) V7 V8 := by rw [← hV]; exact (But.refl (fun b => b = gq + 1) _).setCell (p := ⟨gq + 1, 4, none⟩) rfl _
  refine ⟨hbV8, ?_⟩
  clear hV kx fx
  simp only [List.setIfInBounds_toArray, List.set_cons_zero, List.set_cons_succ] at tN
  refine anyT_done (by kernel_rfl) ?_
  have hbN : But (fun b => b = gq + 1) w4 V8 := (But.of (ld.trans (lW5.trans lW6))).trans (hbV7.trans hbV8)
  have qN := (hbN.block gq (Array.getElem?_eq_some_iff.1 qk).1 (by omega)).trans qk
  have rN := (hbN.block (w.heap.size + 1) (Array.getElem?_eq_some_iff.1 r3).1 (by omega)).trans r3
  have sN := (hbN.block (w.heap.size + 1 + 1) (Array.getElem?_eq_some_iff.1 s3).1 (by omega)).trans s3
  have hwN : Below w.heap.size w V8 := hw3.trans (hbN.below hw3.size (fun k hk e => by omega))
  clear ld
  go_upto_region 26 with fail
  refine anyT_begin (R := But (fun b => b = w.heap.size + 1 ∨ b = w.heap.size + 1 + 1)) 5 rfl (by kernel_rfl) ?_
  have ld : Later V8 V8.drew := Later.drew V8
  have qd0 := later_keep ld qN
  have td0 := later_keep ld tN
  have rd0 := later_keep ld rN
  have sd0 := later_keep ld sN
  have hwd := hwN.trans (ld.mono hwN.size)
  generalize V8.drew = Wd at *
  have ha : ∀ v1, But (fun b => b = w.heap.size + 1 ∨ b = w.heap.size + 1 + 1) Wd v1 → ∀ i, v1.cell? ⟨gq, i, none⟩ = #[Value.int .u8 q1, .int .u16 q2, .bool q3, .int .u8 q4, .int .u8 pr, .int .u32 qs, .int .u32 qd, .slice b7 l7 c7, .slice b8 dq.length c8][i]? := fun v1 h => block_cell ((h.block gq (Array.getElem?_eq_some_iff.1 qd0).1 (by omega)).trans qd0)
  have hb : ∀ v1, But (fun b => b = w.heap.size + 1 ∨ b = w.heap.size + 1 + 1) Wd v1 → ∀ i, v1.cell? ⟨gq + 1, i, none⟩ = #[Value.int .u8 pr, .int .u32 qs, .int .u32 qd, .int .u16 g0, .int .u16 g2][i]? := fun v1 h => block_cell ((h.block (gq + 1) (Array.getElem?_eq_some_iff.1 td0).1 (by omega)).trans td0)
  refine anyT_val (But.pre _) 0 rfl (by kernel_rfl) (by kernel_rfl) (by kernel_rfl) (fun _ _ _ _ h => h) rfl ?_; apply Exists.intro; refine ⟨fun v1 hv1 => ?_, ?_⟩; (· (go_simp; rfl)); simp only [Act.put, sA, sB, sC]
  refine anyT_val (But.pre _) 1 rfl (by kernel_rfl) (by kernel_rfl) (by kernel_rfl) (fun _ _ _ _ h => h) rfl ?_; apply Exists.intro; refine ⟨fun v1 hv1 => ?_, ?_⟩; (· (go_simp; rfl)); simp only [Act.put, sA, sB, sC]
  clear ha hb
  have kx := block_cell rd0
  have fx := block_frozen rd0
  refine anyT_one 2 rfl (by kernel_rfl) rfl ?_
  unfold Oper.wp
  go_simp
  generalize hV1 : ((((((((Wd.setCell ⟨w.heap.size + 1, 0, none⟩ _).setCell ⟨w.heap.size + 1, 1, none⟩ _).setCell ⟨w.heap.size + 1, 2, none⟩ _).setCell ⟨w.heap.size + 1, 3, none⟩ _).setCell ⟨w.heap.size + 1, 4, none⟩ _).setCell ⟨w.heap.size + 1, 5, none⟩ _).setCell ⟨w.heap.size + 1, 6, none⟩ _).setCell ⟨w.heap.size + 1, 7, none⟩ _).setCell ⟨w.heap.size + 1, 8, none⟩ _ = Y0
  have hV9 : Y0 = putRow Wd (w.heap.size + 1) 0 [.int .u8 q1, .int .u16 q2, .bool q3, .int .u8 q4, .int .u8 pr, .int .u32 qs, .int .u32 qd, .slice b7 l7 c7, .slice b8 dq.length c8] := hV1.symm
  have hbY0 : But (fun b => b = w.heap.size + 1) Wd Y0 := by rw [hV9]; exact putRow_but (E := fun b => b = w.heap.size + 1) (n := w.heap.size + 1) rfl _ _ _ _ (But.refl _ _)
  have hbY1 : But (fun b => b = w.heap.size + 1 ∨ b = w.heap.size + 1 + 1) Wd Y0 := by rw [hV9]; exact putRow_but (E := fun b => b = w.heap.size + 1 ∨ b = w.heap.size + 1 + 1) (n := w.heap.size + 1) (.inl rfl) _ _ _ _ (But.refl _ _)
  have pY0 := putRow_all ([.int .u8 q1, .int .u16 q2, .bool q3, .int .u8 q4, .int .u8 pr, .int .u32 qs, .int .u32 qd, .slice b7 l7 c7, .slice b8 dq.length c8] : List Value) rd0 rfl
  rw [← hV9] at pY0
  have sY0 := (hbY0.block (w.heap.size + 1 + 1) (Array.getElem?_eq_some_iff.1 sd0).1 (by omega)).trans sd0
  refine ⟨hbY1, ?_⟩
  clear hV1 hV9 kx fx
  have kx := block_cell sY0
  have fx := block_frozen sY0
  refine anyT_one 3 rfl (by kernel_rfl) rfl ?_
  unfold Oper.wp
  go_simp
  generalize hV2 : ((((Y0.setCell ⟨w.heap.size + 1 + 1, 0, none⟩ _).setCell ⟨w.heap.size + 1 + 1, 1, none⟩ _).setCell ⟨w.heap.size + 1 + 1, 2, none⟩ _).setCell ⟨w.heap.size + 1 + 1, 3, none⟩ _).setCell ⟨w.heap.size + 1 + 1, 4, none⟩ _ = V
  have hV8 : V = putRow Y0 (w.heap.size + 1 + 1) 0 [.int .u8 pr, .int .u32 qs, .int .u32 qd, .int .u16 g0, .int .u16 g2] := hV2.symm
  have hbV : But (fun b => b = w.heap.size + 1 + 1) Y0 V := by rw [hV8]; exact putRow_but (E := fun b => b = w.heap.size + 1 + 1) (n := w.heap.size + 1 + 1) rfl _ _ _ _ (But.refl _ _)
  have hbV1 : But (fun b => b = w.heap.size + 1 ∨ b = w.heap.size + 1 + 1) Y0 V := by rw [hV8]; exact putRow_but (E := fun b => b = w.heap.size + 1 ∨ b = w.heap.size + 1 + 1) (n := w.heap.size + 1 + 1) (.inr rfl) _ _ _ _ (But.refl _ _)
  have qV := putRow_all ([.int .u8 pr, .int .u32 qs, .int .u32 qd, .int .u16 g0, .int .u16 g2] : List Value) sY0 rfl
  rw [← hV8] at qV
  have pV := (hbV.block (w.heap.size + 1) (Array.getElem?_eq_some_iff.1 pY0).1 (by omega)).trans pY0
  refine ⟨hbV1, ?_⟩
  clear hV2 hV8 kx fx
  refine anyT_one 4 rfl (by kernel_rfl) rfl ?_
  unfold Oper.wp
  go_simp
  refine ⟨But.refl _ _, ?_⟩
  refine anyT_done (by kernel_rfl) ?_
  have PV := block_cell pV
  have QV := block_cell qV
  have hwV : Below w.heap.size w V := (hwd.trans (hbY0.below hwd.size (fun k hk e => by omega))).trans (hbV.below (Nat.le_trans hwd.size hbY0.size) (fun k hk e => by omega))
  go_wp2_with fail
  exact bodyPost_ret (v := .tuple #[.agg #[.int .u8 q1, .int .u16 q2, .bool q3, .int .u8 q4, .int .u8 pr, .int .u32 qs, .int .u32 qd, .slice b7 l7 c7, .slice b8 dq.length c8], .agg #[.int .u8 pr, .int .u32 qs, .int .u32 qd, .int .u16 g0, .int .u16 g2], .int .i64 0]) (by simp [results, Tryz.results20, go_sem, PV, QV]) rfl ⟨hwV, by rw [HDQ.out, HG0.out, HG2.out, HQS.out, HQD.out]; exact rin_yes _ _ _ _ _ _ _ _ _ _ _ _ _ _ _ ⟨HPR.out.symm, HL7.out.symm, by rw [HDQ.out]⟩⟩
end Go.Proofs.YtghpakfjpdifaaaGreatDoor
