/- Several texts in one. -/
import Derived.Test.YtomdccljoaieeaaDoorX3
import Derived.Test.YtomdccljoaieeaaDoorPA
import Derived.Lib.TrailingZeros
import Derived.Test.YtomdccljoaieeaaDoorPD
import Derived.Test.YtomdccljoaieeaaDoorRh
import Derived.Test.YtomdccljoaieeaaDoorRt
import Derived.Test.YtomdccljoaieeaaDoorRx
/- Package mangle: Rewrite. -/
namespace Go.Proofs.YtomdccljoaieeaaDoor
open Go.RowKit Go.Shelf
set_option maxRecDepth 100000
set_option linter.unusedVariables false
set_option linter.unusedSimpArgs false

theorem later_alloc' (w : World) (o : Obj) : Later w (w.alloc o) := (Below.refl _ _).alloc (Nat.le_refl _) _

set_option maxHeartbeats 16000000 in
theorem rewrite_any (tos id ttl pr src dst : Int) (keep : Bool) (so sd : Value) (zo zd : List Int) (tp s d a b : Int) (w : World) (hT : Tb w) (hBo : Mt.By zo) (hBd : Mt.By zd) (hIo : Rd w.heap.size w so zo) (hId : Rd w.heap.size w sd zd) (hlo : zo.length ≤ 140737488355328) (hl : zd.length ≤ 140737488351232)
    (ht : 0 ≤ tos ∧ tos ≤ 255) (hid : 0 ≤ id ∧ id ≤ 65535) (htt : 0 ≤ ttl ∧ ttl ≤ 255) (hpr : 0 ≤ pr ∧ pr ≤ 255) (hsr : 0 ≤ src ∧ src ≤ 4294967295) (hds : 0 ≤ dst ∧ dst ≤ 4294967295) (hs : 0 ≤ s ∧ s ≤ 4294967295) (hd : 0 ≤ d ∧ d ≤ 4294967295) (ha : 0 ≤ a ∧ a ≤ 65535) (hb : 0 ≤ b ∧ b ≤ 65535) :
    Calls Tryd.prog 11 #[.agg #[.int .u8 tos, .int .u16 id, .bool keep, .int .u8 ttl, .int .u8 pr, .int .u32 src, .int .u32 dst, so, sd], .agg #[.int .u8 tp, .int .u32 s, .int .u32 d, .int .u16 a, .int .u16 b]] w fun e w' => Below w.heap.size w w' ∧ ((rwe pr tp src dst zo.length zd ≠ 0 ∧ e = .returned (.tuple #[.agg zpk.toArray, .int .i64 (rwe pr tp src dst zo.length zd)])) ∨
      (rwe pr tp src dst zo.length zd = 0 ∧ ∃ ao co ad cd, e = .returned (.tuple #[.agg #[.int .u8 tos, .int .u16 id, .bool keep, .int .u8 ttl, .int .u8 pr, .int .u32 s, .int .u32 d, .slice ao zo.length co, .slice ad zd.length cd], .int .i64 0]) ∧ Ow w.heap.size w' (.slice ao zo.length co) zo ∧ Ow w.heap.size w' (.slice ad zd.length cd) (rwD pr s d a b zd))) := by
  obtain ⟨ao, co, rfl, hlo1, hmo1⟩ := hIo.slice
  obtain ⟨ad, cd, rfl, hl1, hm1⟩ := hId.slice
  have hb0 : Below w.heap.size w (((w.alloc (.cells #[.int .u8 tos, .int .u16 id, .bool keep, .int .u8 ttl, .int .u8 pr, .int .u32 src, .int .u32 dst, .slice ao zo.length co, .slice ad zd.length cd] 40)).alloc (.cells #[.int .u8 tp, .int .u32 s, .int .u32 d, .int .u16 a, .int .u16 b] 46)).alloc (.cells zpk.toArray 40)) := (((Below.refl _ _).alloc (Nat.le_refl _) _).alloc (by simp) _).alloc (by simp <;> omega) _
  have p0 : (((w.alloc (.cells #[.int .u8 tos, .int .u16 id, .bool keep, .int .u8 ttl, .int .u8 pr, .int .u32 src, .int .u32 dst, .slice ao zo.length co, .slice ad zd.length cd] 40)).alloc (.cells #[.int .u8 tp, .int .u32 s, .int .u32 d, .int .u16 a, .int .u16 b] 46)).alloc (.cells zpk.toArray 40)).heap[w.heap.size]? = some (.cells #[.int .u8 tos, .int .u16 id, .bool keep, .int .u8 ttl, .int .u8 pr, .int .u32 src, .int .u32 dst, .slice ao zo.length co, .slice ad zd.length cd] 40) := (Below.heap_alloc _ _ _ (by simp <;> omega)).trans ((Below.heap_alloc _ _ _ (by simp)).trans (heap_alloc_new w _))
  have t0 : (((w.alloc (.cells #[.int .u8 tos, .int .u16 id, .bool keep, .int .u8 ttl, .int .u8 pr, .int .u32 src, .int .u32 dst, .slice ao zo.length co, .slice ad zd.length cd] 40)).alloc (.cells #[.int .u8 tp, .int .u32 s, .int .u32 d, .int .u16 a, .int .u16 b] 46)).alloc (.cells zpk.toArray 40)).heap[w.heap.size + 1]? = some (.cells #[.int .u8 tp, .int .u32 s, .int .u32 d, .int .u16 a, .int .u16 b] 46) := by
    have := heap_alloc_new (w.alloc (.cells #[.int .u8 tos, .int .u16 id, .bool keep, .int .u8 ttl, .int .u8 pr, .int .u32 src, .int .u32 dst, .slice ao zo.length co, .slice ad zd.length cd] 40)) (.cells #[.int .u8 tp, .int .u32 s, .int .u32 d, .int .u16 a, .int .u16 b] 46)
    rw [World.size_alloc] at this
    exact (Below.heap_alloc _ _ _ (by simp)).trans this
  have r0 : (((w.alloc (.cells #[.int .u8 tos, .int .u16 id, .bool keep, .int .u8 ttl, .int .u8 pr, .int .u32 src, .int .u32 dst, .slice ao zo.length co, .slice ad zd.length cd] 40)).alloc (.cells #[.int .u8 tp, .int .u32 s, .int .u32 d, .int .u16 a, .int .u16 b] 46)).alloc (.cells zpk.toArray 40)).heap[w.heap.size + 1 + 1]? = some (.cells zpk.toArray 40) := by
    have := heap_alloc_new ((w.alloc (.cells #[.int .u8 tos, .int .u16 id, .bool keep, .int .u8 ttl, .int .u8 pr, .int .u32 src, .int .u32 dst, .slice ao zo.length co, .slice ad zd.length cd] 40)).alloc (.cells #[.int .u8 tp, .int .u32 s, .int .u32 d, .int .u16 a, .int .u16 b] 46)) (.cells zpk.toArray 40)
    simpa only [World.size_alloc] using this
  have P0 := hide p0
  have T0 := hide t0
  have R0 := hide r0
  clear p0 t0 r0
  go_enter Tryd.func11, Tryd.ntmps11
  go_upto_region 1 with fail
  generalize ((w.alloc _).alloc _).alloc _ = W0 at *
  have kP := block_cell P0.out
  have kT := block_cell T0.out
  by_cases c1 : pr = tp
  case neg =>
    have t1 : (pr != tp) = true := by simp [c1]
    have HF : Hid (rwe pr tp src dst zo.length zd = 12) := by show _ = _; unfold rwe; rw [if_pos c1]
    have HNZ : Hid ((12 : Int) ≠ 0) := by show (12 : Int) ≠ 0; decide
    have kR := block_cell R0.out
    have fR := block_frozen R0.out
    clear c1
    go_wp2_with fail
    generalize hV : (((((((((W0.setCell ⟨w.heap.size + 1 + 1, 0, none⟩ _).setCell ⟨w.heap.size + 1 + 1, 1, none⟩ _).setCell ⟨w.heap.size + 1 + 1, 2, none⟩ _).setCell ⟨w.heap.size + 1 + 1, 3, none⟩ _).setCell ⟨w.heap.size + 1 + 1, 4, none⟩ _).setCell ⟨w.heap.size + 1 + 1, 5, none⟩ _).setCell ⟨w.heap.size + 1 + 1, 6, none⟩ _).setCell ⟨w.heap.size + 1 + 1, 7, none⟩ _).setCell ⟨w.heap.size + 1 + 1, 8, none⟩ _) = V8; have hV9 : V8 = putRow W0 (w.heap.size + 1 + 1) 0 zpk := hV.symm; have hb8 : But (fun b => b = w.heap.size + 1 + 1) W0 V8 := by { rw [hV9]; exact putRow_but (E := fun b => b = w.heap.size + 1 + 1) (n := w.heap.size + 1 + 1) rfl _ _ _ _ (But.refl _ _) }; have p8 := putRow_all zpk R0.out rfl; rw [← hV9] at p8; clear hV hV9; have P8 := block_cell p8; have hw8 : Below w.heap.size w V8 := (hb0).trans (hb8.below (hb0).size (fun k h e => by omega)); exact bodyPost_ret (v := .tuple #[.agg zpk.toArray, .int .i64 12]) (by simp [results, Tryd.results11, go_sem, P8, zpk]) rfl ⟨hw8, .inl ⟨by rw [HF.out]; exact HNZ.out, by rw [HF.out]⟩⟩
  subst c1
  have t1 : (pr != pr) = false := by simp
  have hs0 : w.heap.size + 1 + 1 < W0.heap.size := (Array.getElem?_eq_some_iff.1 R0.out).1
  go_upto_region 3 with fail
  go_wp2_with fail
  refine (of_any tos id ttl pr src dst keep _ _ zd W0 (hT.below hb0 hT.pos) hBd ((hId.below hb0).mono hb0.size) (by omega) hsr hds).mono ?_
  obtain ⟨oe, HO⟩ : ∃ e, Hid (ofe pr src dst zd = e) := ⟨_, rfl⟩
  rw [HO.out]
  rintro e w1 ⟨hb1, rfl⟩
  have l1 : Later W0 w1 := hb1
  have hw1 : Below w.heap.size w w1 := Later.below hb0 (Nat.le_refl _) l1
  by_cases c2 : oe = 0
  case neg =>
    rw [otv_no c2]
    have t2 : (oe != 0) = true := by simp [c2]
    have HF : Hid (rwe pr pr src dst zo.length zd = oe) := by show _ = _; unfold rwe; rw [if_neg (by simp), HO.out, if_pos c2]
    have HNZ : Hid (oe ≠ 0) := c2
    have r1 := (l1.block (w.heap.size + 1 + 1) hs0).trans R0.out
    have lA := later_alloc' w1 (.cells #[.int .u8 0, .int .u32 0, .int .u32 0, .int .u16 0, .int .u16 0] 46)
    have r2 := (lA.block (w.heap.size + 1 + 1) (Array.getElem?_eq_some_iff.1 r1).1).trans r1
    have hw2 : Below w.heap.size w (w1.alloc (.cells #[.int .u8 0, .int .u32 0, .int .u32 0, .int .u16 0, .int .u16 0] 46)) := Later.below hw1 (Nat.le_refl _) lA
    have R2 := hide r2
    clear c2 kP kT r1 r2 lA
    go_upto_region 4 with fail
    generalize w1.alloc _ = w2 at *
    have kR := block_cell R2.out
    have fR := block_frozen R2.out
    go_wp2_with fail
    generalize hV : (((((((((w2.setCell ⟨w.heap.size + 1 + 1, 0, none⟩ _).setCell ⟨w.heap.size + 1 + 1, 1, none⟩ _).setCell ⟨w.heap.size + 1 + 1, 2, none⟩ _).setCell ⟨w.heap.size + 1 + 1, 3, none⟩ _).setCell ⟨w.heap.size + 1 + 1, 4, none⟩ _).setCell ⟨w.heap.size + 1 + 1, 5, none⟩ _).setCell ⟨w.heap.size + 1 + 1, 6, none⟩ _).setCell ⟨w.heap.size + 1 + 1, 7, none⟩ _).setCell ⟨w.heap.size + 1 + 1, 8, none⟩ _) = V8; have hV9 : V8 = putRow w2 (w.heap.size + 1 + 1) 0 zpk := hV.symm; have hb8 : But (fun b => b = w.heap.size + 1 + 1) w2 V8 := by { rw [hV9]; exact putRow_but (E := fun b => b = w.heap.size + 1 + 1) (n := w.heap.size + 1 + 1) rfl _ _ _ _ (But.refl _ _) }; have p8 := putRow_all zpk R2.out rfl; rw [← hV9] at p8; clear hV hV9; have P8 := block_cell p8; have hw8 : Below w.heap.size w V8 := (hw2).trans (hb8.below (hw2).size (fun k h e => by omega)); exact bodyPost_ret (v := .tuple #[.agg zpk.toArray, .int .i64 oe]) (by simp [results, Tryd.results11, go_sem, P8, zpk]) rfl ⟨hw8, .inl ⟨by rw [HF.out]; exact HNZ.out, by rw [HF.out]⟩⟩
  subst c2
  have hok := ofe_pok HO.out
  rw [otv_ok]
  have HFL : Hid (rwe pr pr src dst zo.length zd = flt zo.length zd.length) := by show _ = _; unfold rwe; rw [if_neg (by simp), HO.out, if_neg (by simp)]
  generalize ofa pr zd = wa at *
  generalize ofb pr zd = wb at *
  have P1 := hide ((l1.block w.heap.size (by omega)).trans P0.out)
  have T1 := hide ((l1.block (w.heap.size + 1) (by omega)).trans T0.out)
  have R1 := hide ((l1.block (w.heap.size + 1 + 1) hs0).trans R0.out)
  have hs1 : w.heap.size + 1 + 1 < w1.heap.size := Nat.lt_of_lt_of_le hs0 l1.size
  have lA := later_alloc' w1 (.cells #[.int .u8 pr, .int .u32 src, .int .u32 dst, .int .u16 wa, .int .u16 wb] 46)
  have W2 := hide (heap_alloc_new w1 (.cells #[.int .u8 pr, .int .u32 src, .int .u32 dst, .int .u16 wa, .int .u16 wb] 46))
  clear kP kT P0 T0 R0
  go_upto_region 6 with fail
  generalize w1.alloc _ = w2 at *
  have P2 := hide ((lA.block w.heap.size (by omega)).trans P1.out)
  have T2 := hide ((lA.block (w.heap.size + 1) (by omega)).trans T1.out)
  have R2 := hide ((lA.block (w.heap.size + 1 + 1) hs1).trans R1.out)
  have hs2 : w1.heap.size < w2.heap.size := (Array.getElem?_eq_some_iff.1 W2.out).1
  have hw2 : Below w.heap.size w w2 := Later.below hw1 (Nat.le_refl _) lA
  have kP := block_cell P2.out
  have kT := block_cell T2.out
  have kW := block_cell W2.out
  have lB := later_alloc' w2 (.cells #[.slice ad zd.length cd, .int .u8 pr, .int .u32 src, .int .u32 dst, .int .u16 wa, .int .u16 wb, .int .u8 pr, .int .u32 s, .int .u32 d, .int .u16 a, .int .u16 b] 97)
  have U3 : Hid (UB (w2.alloc (.cells #[.slice ad zd.length cd, .int .u8 pr, .int .u32 src, .int .u32 dst, .int .u16 wa, .int .u16 wb, .int .u8 pr, .int .u32 s, .int .u32 d, .int .u16 a, .int .u16 b] 97)) w2.heap.size ⟨pr, src, dst, wa, wb, pr, s, d, a, b⟩ (.slice ad zd.length cd)) := heap_alloc_new w2 _
  clear P1 T1 R1
  go_upto_region 7 with fail
  generalize w2.alloc _ = w3 at *
  clear kP kT kW
  generalize hg : w2.heap.size = g at *
  have P3 := hide ((lB.block w.heap.size (by omega)).trans P2.out)
  have T3 := hide ((lB.block (w.heap.size + 1) (by omega)).trans T2.out)
  have R3 := hide ((lB.block (w.heap.size + 1 + 1) (by omega)).trans R2.out)
  have hw3 : Below w.heap.size w w3 := Later.below hw2 (Nat.le_refl _) lB
  have hg3 : g < w3.heap.size := (Array.getElem?_eq_some_iff.1 U3.out).1
  have hsg : w.heap.size + 1 + 1 < g := by omega
  have hId3 : Rd w3.heap.size w3 (.slice ad zd.length cd) zd := (hId.below hw3).mono hw3.size
  have HG := hide hg
  clear hg lA lB P2 T2 R2 W2 hs2
  refine anyT_begin (R := But (fun q => q = g)) 5 rfl (by kernel_rfl) ?_
  have hdr : Later w3 w3.drew := Later.drew w3
  have P4 := hide ((hdr.block w.heap.size (by omega)).trans P3.out)
  have T4 := hide ((hdr.block (w.heap.size + 1) (by omega)).trans T3.out)
  have R4 := hide ((hdr.block (w.heap.size + 1 + 1) (by omega)).trans R3.out)
  have hUR : UR w3.drew g ⟨pr, src, dst, wa, wb, pr, s, d, a, b⟩ zd := (show UR w3 g ⟨pr, src, dst, wa, wb, pr, s, d, a, b⟩ zd from ⟨_, U3.out, hId3⟩).later hdr
  have hw4 : Below w.heap.size w w3.drew := Later.below hw3 (Nat.le_refl _) hdr
  have hg4 : g < w3.drew.heap.size := Nat.lt_of_lt_of_le hg3 hdr.size
  generalize w3.drew = w4 at *
  have qT : ∀ v1, But (fun q => q = g) w4 v1 → ∀ i, v1.cell? ⟨w.heap.size + 1, i, none⟩ = #[Value.int .u8 pr, .int .u32 s, .int .u32 d, .int .u16 a, .int .u16 b][i]? := fun v1 h => block_cell ((h.block (w.heap.size + 1) (by omega) (by omega)).trans T4.out)
  refine anyT_val (But.pre _) 1 rfl (by kernel_rfl) (by kernel_rfl) (by kernel_rfl) (fun _ _ _ _ h => h) rfl ?_; apply Exists.intro; refine ⟨fun v1 hv1 => ?_, ?_⟩; (· (go_simp; rfl)); simp only [Act.put, List.setIfInBounds_toArray, List.set_cons_zero, List.set_cons_succ]
  refine anyT_val (But.pre _) 2 rfl (by kernel_rfl) (by kernel_rfl) (by kernel_rfl) (fun _ _ _ _ h => h) rfl ?_; apply Exists.intro; refine ⟨fun v1 hv1 => ?_, ?_⟩; (· (go_simp; rfl)); simp only [Act.put, List.setIfInBounds_toArray, List.set_cons_zero, List.set_cons_succ]
  clear qT
  refine anyT_one 0 rfl (by kernel_rfl) rfl ?_
  refine wp_enter 33 #[.pointer (some ⟨g, 0, none⟩)] (by go_simp) ((whole_any g w4).mono ?_)
  rintro e w5 ⟨m, rfl, l5, hm5⟩
  refine ⟨But.of l5, ?_⟩
  simp only [Act.put, List.setIfInBounds_toArray, List.set_cons_zero, List.set_cons_succ]
  have hmg : m ≠ g := by
    intro e
    subst e
    obtain ⟨bv, hx, _⟩ := hUR.later l5
    rw [UB, hm5] at hx
    cases hx
  have qL : ∀ v1, But (fun q => q = g) w5 v1 → (Instr.lookup 98 (.map (some m)) (.int .u8 pr) false).run Tryd.prog v1 = .ok (mth (uf pr) g) v1 := fun v1 h => look_uf hok g ((h.block m (Array.getElem?_eq_some_iff.1 hm5).1 hmg).trans hm5)
  refine anyT_val (But.pre _) 3 rfl (by kernel_rfl) (by kernel_rfl) (by kernel_rfl) (fun _ _ _ _ h => h) rfl ?_; apply Exists.intro; refine ⟨fun v1 hv1 => ?_, ?_⟩; (· (go_simp; rfl)); simp only [Act.put, List.setIfInBounds_toArray, List.set_cons_zero, List.set_cons_succ]
  clear qL
  refine anyT_one 4 rfl (by kernel_rfl) rfl ?_
  have hcf := cf_uf hok #[.pointer (some ⟨g, 0, none⟩)] w5
  refine wp_enter (uf pr) #[.pointer (some ⟨g, 0, none⟩)] (by go_simp) ((uf_any (pr := pr) w.heap.size g ⟨pr, src, dst, wa, wb, pr, s, d, a, b⟩ zd w5 hBd (hUR.later l5) (Nat.le_trans hw4.size l5.size) (by omega) ⟨hs, hd, ha, hb⟩ rfl HO.out).mono ?_)
  rintro e w6 ⟨rfl, S6, b6⟩
  refine ⟨b6, ?_⟩
  simp only [Act.put, List.setIfInBounds_toArray, List.set_cons_zero, List.set_cons_succ]
  refine anyT_done (by kernel_rfl) ?_
  obtain ⟨bv6, hU6, hO6⟩ := S6
  obtain ⟨a6, c6, rfl, _, _⟩ := hO6.slice
  rw [rwD_length] at hU6 hO6
  have b46 : But (fun q => q = g) w4 w6 := (But.of l5).trans b6
  have P6 := hide ((b46.block w.heap.size (by omega) (by omega)).trans P4.out)
  have T6 := hide ((b46.block (w.heap.size + 1) (by omega) (by omega)).trans T4.out)
  have R6 := hide ((b46.block (w.heap.size + 1 + 1) (by omega) (by omega)).trans R4.out)
  have hw6 : Below w.heap.size w w6 := hw4.trans (b46.below hw4.size (fun k hk e => by omega))
  have hg6 : g < w6.heap.size := Nat.lt_of_lt_of_le hg4 b46.size
  have U6 := hide hU6
  have O6 := hide hO6
  clear hU6 hO6 b6 l5 hm5 hmg b46 P4 T4 R4 hUR hw4 hg4 hcf P3 T3 R3 U3 hId3 hw3 hg3 hdr
  go_upto_region 8 with fail
  refine anyT_begin (R := But (fun q => q = w.heap.size)) 17 rfl (by kernel_rfl) ?_
  have hdr : Later w6 w6.drew := Later.drew w6
  have P7 := hide ((hdr.block w.heap.size (by omega)).trans P6.out)
  have T7 := hide ((hdr.block (w.heap.size + 1) (by omega)).trans T6.out)
  have R7 := hide ((hdr.block (w.heap.size + 1 + 1) (by omega)).trans R6.out)
  have U7 := hide (U6.out.later hdr)
  have O7 := hide (O6.out.later hdr)
  have hw7 : Below w.heap.size w w6.drew := Later.below hw6 (Nat.le_refl _) hdr
  have hg7 : g < w6.drew.heap.size := Nat.lt_of_lt_of_le hg6 hdr.size
  generalize w6.drew = w7 at *
  have qT : ∀ v1, But (fun q => q = w.heap.size) w7 v1 → ∀ i, v1.cell? ⟨w.heap.size + 1, i, none⟩ = #[Value.int .u8 pr, .int .u32 s, .int .u32 d, .int .u16 a, .int .u16 b][i]? := fun v1 h => block_cell ((h.block (w.heap.size + 1) (by omega) (by omega)).trans T7.out)
  have qU : ∀ v1, But (fun q => q = w.heap.size) w7 v1 → ∀ i, v1.cell? ⟨g, i, none⟩ = #[Value.slice a6 zd.length c6, .int .u8 pr, .int .u32 src, .int .u32 dst, .int .u16 wa, .int .u16 wb, .int .u8 pr, .int .u32 s, .int .u32 d, .int .u16 a, .int .u16 b][i]? := fun v1 h => block_cell ((h.block g hg7 (by omega)).trans U7.out)
  refine anyT_val (But.pre _) 0 rfl (by kernel_rfl) (by kernel_rfl) (by kernel_rfl) (fun _ _ _ _ h => h) rfl ?_; apply Exists.intro; refine ⟨fun v1 hv1 => ?_, ?_⟩; (· (go_simp; rfl)); simp only [Act.put, List.setIfInBounds_toArray, List.set_cons_zero, List.set_cons_succ]
  refine anyT_val (But.pre _) 1 rfl (by kernel_rfl) (by kernel_rfl) (by kernel_rfl) (fun _ _ _ _ h => h) rfl ?_; apply Exists.intro; refine ⟨fun v1 hv1 => ?_, ?_⟩; (· (go_simp; rfl)); simp only [Act.put, List.setIfInBounds_toArray, List.set_cons_zero, List.set_cons_succ]
  refine anyT_val (But.pre _) 2 rfl (by kernel_rfl) (by kernel_rfl) (by kernel_rfl) (fun _ _ _ _ h => h) rfl ?_; apply Exists.intro; refine ⟨fun v1 hv1 => ?_, ?_⟩; (· (go_simp; rfl)); simp only [Act.put, List.setIfInBounds_toArray, List.set_cons_zero, List.set_cons_succ]
  refine anyT_val (But.pre _) 3 rfl (by kernel_rfl) (by kernel_rfl) (by kernel_rfl) (fun _ _ _ _ h => h) rfl ?_; apply Exists.intro; refine ⟨fun v1 hv1 => ?_, ?_⟩; (· (go_simp; rfl)); simp only [Act.put, List.setIfInBounds_toArray, List.set_cons_zero, List.set_cons_succ]
  refine anyT_val (But.pre _) 4 rfl (by kernel_rfl) (by kernel_rfl) (by kernel_rfl) (fun _ _ _ _ h => h) rfl ?_; apply Exists.intro; refine ⟨fun v1 hv1 => ?_, ?_⟩; (· (go_simp; rfl)); simp only [Act.put, List.setIfInBounds_toArray, List.set_cons_zero, List.set_cons_succ]
  refine anyT_val (But.pre _) 7 rfl (by kernel_rfl) (by kernel_rfl) (by kernel_rfl) (fun _ _ _ _ h => h) rfl ?_; apply Exists.intro; refine ⟨fun v1 hv1 => ?_, ?_⟩; (· (go_simp; rfl)); simp only [Act.put, List.setIfInBounds_toArray, List.set_cons_zero, List.set_cons_succ]
  refine anyT_val (But.pre _) 8 rfl (by kernel_rfl) (by kernel_rfl) (by kernel_rfl) (fun _ _ _ _ h => h) rfl ?_; apply Exists.intro; refine ⟨fun v1 hv1 => ?_, ?_⟩; (· (go_simp; rfl)); simp only [Act.put, List.setIfInBounds_toArray, List.set_cons_zero, List.set_cons_succ]
  clear qT qU
  have kP := block_cell P7.out
  refine anyT_one 5 rfl (by kernel_rfl) rfl ?_
  unfold Oper.wp
  go_simp
  refine ⟨But.refl _ _, ?_⟩
  clear kP
  refine anyT_val (But.pre _) 9 rfl (by kernel_rfl) (by kernel_rfl) (by kernel_rfl) (fun _ _ _ _ h => h) rfl ?_; apply Exists.intro; refine ⟨fun v1 hv1 => ?_, ?_⟩; (· (go_simp; rfl)); simp only [Act.put, List.setIfInBounds_toArray, List.set_cons_zero, List.set_cons_succ]
  refine anyT_one 6 rfl (by kernel_rfl) rfl ?_
  refine wp_enter 34 #[.slice ao zo.length co] (by go_simp) ((cloneb_any _ zo w7 (by omega) ((hIo.below hw7).mono hw7.size)).mono ?_)
  rintro e w8 ⟨a8, c8, rfl, hO8, hb8⟩
  have l8 : Later w7 w8 := hb8
  refine ⟨But.of l8, ?_⟩
  simp only [Act.put, List.setIfInBounds_toArray, List.set_cons_zero, List.set_cons_succ]
  have P8 := hide ((l8.block w.heap.size (by omega)).trans P7.out)
  have R8 := hide ((l8.block (w.heap.size + 1 + 1) (by omega)).trans R7.out)
  have O8 := hide (hO8.mono hw7.size)
  have D8 := hide (O7.out.later l8)
  have hw8 : Below w.heap.size w w8 := Later.below hw7 (Nat.le_refl _) l8
  have hs8 : w.heap.size + 1 + 1 < w8.heap.size := Nat.lt_of_lt_of_le (by omega) l8.size
  have Bw8 : But (fun q => q = w.heap.size) w8 w8 := But.refl _ _
  clear hO8 hb8 P7 T7 R7 U7 O7 hw7 hg7 l8 hdr U6 O6 T6 R6 P6
  have kS := block_cell P8.out
  have fS := block_frozen P8.out
  have P9 := hide (heap_set1 P8.out 5 (.int .u32 s))
  have bt : Hid (But (fun q => q = w.heap.size) w8 (w8.setCell ⟨w.heap.size, 5, none⟩ (.int .u32 s))) := But.setCell (E := fun q => q = w.heap.size) (But.refl _ _) (p := ⟨w.heap.size, 5, none⟩) rfl _
  refine anyT_one 10 rfl (by kernel_rfl) rfl ?_
  unfold Oper.wp
  go_simp
  refine ⟨bt.out, ?_⟩
  have Bw9 := Bw8.trans bt.out
  clear bt kS fS
  generalize w8.setCell ⟨w.heap.size, 5, none⟩ _ = w9 at *
  refine anyT_val (But.pre _) 11 rfl (by kernel_rfl) (by kernel_rfl) (by kernel_rfl) (fun _ _ _ _ h => h) rfl ?_; apply Exists.intro; refine ⟨fun v1 hv1 => ?_, ?_⟩; (· (go_simp; rfl)); simp only [Act.put, List.setIfInBounds_toArray, List.set_cons_zero, List.set_cons_succ]
  have kS := block_cell P9.out
  have fS := block_frozen P9.out
  have P10 := hide (heap_set1 P9.out 6 (.int .u32 d))
  have bt : Hid (But (fun q => q = w.heap.size) w9 (w9.setCell ⟨w.heap.size, 6, none⟩ (.int .u32 d))) := But.setCell (E := fun q => q = w.heap.size) (But.refl _ _) (p := ⟨w.heap.size, 6, none⟩) rfl _
  refine anyT_one 12 rfl (by kernel_rfl) rfl ?_
  unfold Oper.wp
  go_simp
  refine ⟨bt.out, ?_⟩
  have Bw10 := Bw9.trans bt.out
  clear bt kS fS
  generalize w9.setCell ⟨w.heap.size, 6, none⟩ _ = w10 at *
  refine anyT_val (But.pre _) 13 rfl (by kernel_rfl) (by kernel_rfl) (by kernel_rfl) (fun _ _ _ _ h => h) rfl ?_; apply Exists.intro; refine ⟨fun v1 hv1 => ?_, ?_⟩; (· (go_simp; rfl)); simp only [Act.put, List.setIfInBounds_toArray, List.set_cons_zero, List.set_cons_succ]
  have kS := block_cell P10.out
  have fS := block_frozen P10.out
  have P11 := hide (heap_set1 P10.out 7 (.slice a8 zo.length c8))
  have bt : Hid (But (fun q => q = w.heap.size) w10 (w10.setCell ⟨w.heap.size, 7, none⟩ (.slice a8 zo.length c8))) := But.setCell (E := fun q => q = w.heap.size) (But.refl _ _) (p := ⟨w.heap.size, 7, none⟩) rfl _
  refine anyT_one 14 rfl (by kernel_rfl) rfl ?_
  unfold Oper.wp
  go_simp
  refine ⟨bt.out, ?_⟩
  have Bw11 := Bw10.trans bt.out
  clear bt kS fS
  generalize w10.setCell ⟨w.heap.size, 7, none⟩ _ = w11 at *
  refine anyT_val (But.pre _) 15 rfl (by kernel_rfl) (by kernel_rfl) (by kernel_rfl) (fun _ _ _ _ h => h) rfl ?_; apply Exists.intro; refine ⟨fun v1 hv1 => ?_, ?_⟩; (· (go_simp; rfl)); simp only [Act.put, List.setIfInBounds_toArray, List.set_cons_zero, List.set_cons_succ]
  have kS := block_cell P11.out
  have fS := block_frozen P11.out
  have P12 := hide (heap_set1 P11.out 8 (.slice a6 zd.length c6))
  have bt : Hid (But (fun q => q = w.heap.size) w11 (w11.setCell ⟨w.heap.size, 8, none⟩ (.slice a6 zd.length c6))) := But.setCell (E := fun q => q = w.heap.size) (But.refl _ _) (p := ⟨w.heap.size, 8, none⟩) rfl _
  refine anyT_one 16 rfl (by kernel_rfl) rfl ?_
  unfold Oper.wp
  go_simp
  refine ⟨bt.out, ?_⟩
  have Bw12 := Bw11.trans bt.out
  clear bt kS fS
  generalize w11.setCell ⟨w.heap.size, 8, none⟩ _ = w12 at *
  refine anyT_done (by kernel_rfl) ?_
  have P13 : Hid (w12.heap[w.heap.size]? = some (.cells #[.int .u8 tos, .int .u16 id, .bool keep, .int .u8 ttl, .int .u8 pr, .int .u32 s, .int .u32 d, .slice a8 zo.length c8, .slice a6 zd.length c6] 40)) := by have := P12.out; simp at this; exact this
  have R13 := hide ((Bw12.block (w.heap.size + 1 + 1) hs8 (by omega)).trans R8.out)
  have O13 := hide (Ow.aside O8.out P8.out (by decide) Bw12)
  have D13 := hide (Ow.aside D8.out P8.out (by decide) Bw12)
  have hw12 : Below w.heap.size w w12 := hw8.trans (Bw12.below hw8.size (fun k hk e => by omega))
  have hs12 : w.heap.size + 1 + 1 < w12.heap.size := Nat.lt_of_lt_of_le hs8 Bw12.size
  clear P8 P9 P10 P11 P12 R8 O8 D8 Bw8 Bw9 Bw10 Bw11 Bw12 hw8 hs8
  have kP := block_cell P13.out
  obtain ⟨fl, HFF⟩ : ∃ f, Hid (flt zo.length zd.length = f) := ⟨_, rfl⟩
  by_cases c3 : fl = 0
  case neg =>
    have hfn : flt zo.length zd.length ≠ 0 := by rw [HFF.out]; exact c3
    have t3 : (fl != 0) = true := by simp [c3]
    have HF : Hid (rwe pr pr src dst zo.length zd = fl) := by show _ = _; rw [HFL.out, HFF.out]
    have HNZ : Hid (fl ≠ 0) := c3
    have HBN := hide (build_no tos id ttl pr s d keep a8 a6 zo.length c8 zd.length c6 w12 (by omega) (by omega) hfn)
    rw [HFF.out] at HBN
    clear c3 hfn
    go_wp2_with fail
    refine HBN.out.mono ?_
    rintro e w13 ⟨rfl, hb13⟩
    have l13 : Later w12 w13 := hb13
    have R14 := hide ((l13.block (w.heap.size + 1 + 1) hs12).trans R13.out)
    have hw13 : Below w.heap.size w w13 := Later.below hw12 (Nat.le_refl _) l13
    have kR := block_cell R14.out
    have fR := block_frozen R14.out
    clear kP
    go_wp2_with fail
    generalize hV : (((((((((w13.setCell ⟨w.heap.size + 1 + 1, 0, none⟩ _).setCell ⟨w.heap.size + 1 + 1, 1, none⟩ _).setCell ⟨w.heap.size + 1 + 1, 2, none⟩ _).setCell ⟨w.heap.size + 1 + 1, 3, none⟩ _).setCell ⟨w.heap.size + 1 + 1, 4, none⟩ _).setCell ⟨w.heap.size + 1 + 1, 5, none⟩ _).setCell ⟨w.heap.size + 1 + 1, 6, none⟩ _).setCell ⟨w.heap.size + 1 + 1, 7, none⟩ _).setCell ⟨w.heap.size + 1 + 1, 8, none⟩ _) = V8; have hV9 : V8 = putRow w13 (w.heap.size + 1 + 1) 0 zpk := hV.symm; have hb8 : But (fun b => b = w.heap.size + 1 + 1) w13 V8 := by { rw [hV9]; exact putRow_but (E := fun b => b = w.heap.size + 1 + 1) (n := w.heap.size + 1 + 1) rfl _ _ _ _ (But.refl _ _) }; have p8 := putRow_all zpk R14.out rfl; rw [← hV9] at p8; clear hV hV9; have P8 := block_cell p8; have hw8 : Below w.heap.size w V8 := (hw13).trans (hb8.below (hw13).size (fun k h e => by omega)); exact bodyPost_ret (v := .tuple #[.agg zpk.toArray, .int .i64 fl]) (by simp [results, Tryd.results11, go_sem, P8, zpk]) rfl ⟨hw8, .inl ⟨by rw [HF.out]; exact HNZ.out, by rw [HF.out]⟩⟩
  subst c3
  have hfit := flt_fit2 HFF.out
  have HF : Hid (rwe pr pr src dst zo.length zd = 0) := by show _ = _; rw [HFL.out, HFF.out]
  have HBY := hide (build_yes tos id ttl pr s d keep (.slice a8 zo.length c8) (.slice a6 zd.length c6) zo (rwD pr s d a b zd) w12 hBo O13.out.rd D13.out.rd hfit.1 hfit.2.1 (by rw [rwD_length]; exact hfit.2.2) ht hid htt hpr hs hd)
  clear hfit
  go_wp2_with fail
  refine HBY.out.mono ?_
  rintro e w13 ⟨bv, rfl, hOb, hb13⟩
  have l13 : Later w12 w13 := hb13
  have P14 := hide ((l13.block w.heap.size (by omega)).trans P13.out)
  have R14 := hide ((l13.block (w.heap.size + 1 + 1) hs12).trans R13.out)
  have O14 := hide (O13.out.later l13)
  have D14 := hide (D13.out.later l13)
  have hw13 : Below w.heap.size w w13 := Later.below hw12 (Nat.le_refl _) l13
  clear kP hOb HBY hb13 l13 P13 R13 O13 D13
  have kP := block_cell P14.out
  have kR := block_cell R14.out
  have fR := block_frozen R14.out
  go_wp2_with fail
  generalize hV : (((((((((w13.setCell ⟨w.heap.size + 1 + 1, 0, none⟩ _).setCell ⟨w.heap.size + 1 + 1, 1, none⟩ _).setCell ⟨w.heap.size + 1 + 1, 2, none⟩ _).setCell ⟨w.heap.size + 1 + 1, 3, none⟩ _).setCell ⟨w.heap.size + 1 + 1, 4, none⟩ _).setCell ⟨w.heap.size + 1 + 1, 5, none⟩ _).setCell ⟨w.heap.size + 1 + 1, 6, none⟩ _).setCell ⟨w.heap.size + 1 + 1, 7, none⟩ _).setCell ⟨w.heap.size + 1 + 1, 8, none⟩ _) = V8
  have hV9 : V8 = putRow w13 (w.heap.size + 1 + 1) 0 [.int .u8 tos, .int .u16 id, .bool keep, .int .u8 ttl, .int .u8 pr, .int .u32 s, .int .u32 d, .slice a8 zo.length c8, .slice a6 zd.length c6] := hV.symm
  have hb8 : But (fun b => b = w.heap.size + 1 + 1) w13 V8 := by rw [hV9]; exact putRow_but (E := fun b => b = w.heap.size + 1 + 1) (n := w.heap.size + 1 + 1) rfl _ _ _ _ (But.refl _ _)
  have p8 := putRow_all [.int .u8 tos, .int .u16 id, .bool keep, .int .u8 ttl, .int .u8 pr, .int .u32 s, .int .u32 d, .slice a8 zo.length c8, .slice a6 zd.length c6] R14.out rfl
  rw [← hV9] at p8
  clear hV hV9
  have P8 := block_cell p8
  have hw8 : Below w.heap.size w V8 := hw13.trans (hb8.below hw13.size (fun k h e => by omega))
  exact bodyPost_ret (v := .tuple #[.agg #[.int .u8 tos, .int .u16 id, .bool keep, .int .u8 ttl, .int .u8 pr, .int .u32 s, .int .u32 d, .slice a8 zo.length c8, .slice a6 zd.length c6], .int .i64 0]) (by simp [results, Tryd.results11, go_sem, P8]) rfl ⟨hw8, .inr ⟨HF.out, a8, c8, a6, c6, rfl, Ow.aside O14.out R14.out (by decide) hb8, Ow.aside D14.out R14.out (by decide) hb8⟩⟩
end Go.Proofs.YtomdccljoaieeaaDoor

/- Mathematics of words of 64 bits: their ones, rising. -/
namespace Go.Proofs.YtomdccljoaieeaaDoor.Pm
set_option maxRecDepth 100000
/-- The ones of a word, rising. -/
def bl (x : Nat) : List Nat := (List.range 64).filter (fun j => x.testBit j)
theorem bl_zero : bl 0 = [] := by unfold bl; simp
theorem range_at (k n : Nat) (h : k < n) : List.range n = List.range k ++ k :: (List.range (n - k - 1)).map (fun j => k + 1 + j) := by
  obtain ⟨m, rfl⟩ : ∃ m, n = k + 1 + m := ⟨n - k - 1, by omega⟩
  rw [List.range_add, List.range_succ, List.append_assoc, show k + 1 + m - k - 1 = m from by omega]
  rfl
theorem filter_first (p q : Nat → Bool) (k n : Nat) (h : k < n) (hl : ∀ j, j < k → p j = false) (hk : p k = true) (hq : ∀ j, q j = (p j && decide (j ≠ k))) : (List.range n).filter p = k :: (List.range n).filter q := by
  have e1 : (List.range k).filter p = [] := by rw [List.filter_eq_nil_iff]; intro j hj; rw [hl j (by simpa using hj)]; simp
  have e2 : (List.range k).filter q = [] := by rw [List.filter_eq_nil_iff]; intro j hj; rw [hq, hl j (by simpa using hj)]; simp
  rw [range_at k n h, List.filter_append, List.filter_append, e1, e2, List.filter_cons_of_pos hk, List.filter_cons_of_neg (by rw [hq]; simp)]
  simp only [List.nil_append]
  congr 1
  refine List.filter_congr fun j hj => ?_
  obtain ⟨i, _, rfl⟩ := List.mem_map.1 hj
  rw [hq]
  simp
  omega
theorem low_clear (x : Nat) (h0 : x ≠ 0) (hx : x < 18446744073709551616) : Lib.ctz 64 x < 64 ∧ (∀ j, j < Lib.ctz 64 x → x.testBit j = false) ∧ x.testBit (Lib.ctz 64 x) = true ∧ ∀ j, (x &&& (x - 1)).testBit j = (x.testBit j && decide (j ≠ Lib.ctz 64 x)) := by
  have hc : Lib.ctz 64 x = Lib.ctzFrom 64 x := by unfold Lib.ctz; rw [if_neg h0]
  obtain ⟨m, hm, hk⟩ := Lib.ctzFrom_spec 64 x (by omega) (by simpa using hx)
  rw [hc]
  generalize Lib.ctzFrom 64 x = k at *
  have hp : 0 < 2 ^ k := Nat.two_pow_pos k
  have t1 : ∀ j, x.testBit j = if j < k then false else (2 * m + 1).testBit (j - k) := fun j => by
    have := Nat.testBit_two_pow_mul_add (2 * m + 1) (b := 0) (i := k) hp j
    rw [Nat.add_zero, ← hm] at this
    rw [this]
    split <;> simp
  have e : x - 1 = 2 ^ k * (2 * m) + (2 ^ k - 1) := by rw [hm, Nat.mul_add, Nat.mul_one]; omega
  have t2 : ∀ j, (x - 1).testBit j = if j < k then (2 ^ k - 1).testBit j else (2 * m).testBit (j - k) := fun j => by
    rw [e]
    exact Nat.testBit_two_pow_mul_add (2 * m) (b := 2 ^ k - 1) (i := k) (by omega) j
  refine ⟨hk, fun j hj => by rw [t1, if_pos hj], ?_, fun j => ?_⟩
  · rw [t1, if_neg (by omega), Nat.sub_self]
    simp
  · rw [Nat.testBit_and, t1, t2]
    by_cases hj : j < k
    · simp [hj]
    · rw [if_neg hj, if_neg hj]
      by_cases hjk : j = k
      · subst hjk
        simp
      · obtain ⟨i, hi⟩ : ∃ i, j - k = i + 1 := ⟨j - k - 1, by omega⟩
        rw [hi, Nat.testBit_succ, Nat.testBit_succ]
        rw [show (2 * m + 1) / 2 = m from by omega, show (2 * m) / 2 = m from by omega]
        simp [hjk]
/-- The least of a word's ones, and the others. -/
theorem bl_step (x : Nat) (h0 : x ≠ 0) (hx : x < 18446744073709551616) : bl x = Lib.ctz 64 x :: bl (x &&& (x - 1)) := by
  obtain ⟨h1, h2, h3, h4⟩ := low_clear x h0 hx
  unfold bl
  exact filter_first _ _ _ 64 h1 h2 h3 h4
theorem bl_pcn (x : Nat) : (bl x).length = ((List.range 64).countP (fun i => x.testBit i)) := by
  unfold bl
  rw [List.countP_eq_length_filter]
end Go.Proofs.YtomdccljoaieeaaDoor.Pm

/- Package pool: the numbers of a set, one after the other. -/
namespace Go.Proofs.YtomdccljoaieeaaDoor
open Go.RowKit Go.Shelf
set_option maxRecDepth 100000
attribute [local go_sem] Oper.semAt_some
set_option linter.unusedVariables false
set_option linter.unusedSimpArgs false

def wel (ws : Nat → Nat) (i : Nat) : List Nat := (Pm.bl (ws i)).map (fun j => 64 * i + j)
def elsTo (ws : Nat → Nat) (i : Nat) : List Nat := (List.range i).flatMap (wel ws)
def els (ws : Nat → Nat) : List Nat := elsTo ws 1024
theorem elsTo_succ (ws : Nat → Nat) (i : Nat) : elsTo ws (i + 1) = elsTo ws i ++ wel ws i := by
  unfold elsTo
  rw [List.range_succ, List.flatMap_append]
  simp
theorem els_at (ws : Nat → Nat) (i : Nat) (hi : i < 1024) : ∃ rest, elsTo ws i ++ wel ws i ++ rest = els ws := by
  obtain ⟨m, hm⟩ : ∃ m, 1024 = i + 1 + m := ⟨1023 - i, by omega⟩
  refine ⟨((List.range m).map (i + 1 + ·)).flatMap (wel ws), ?_⟩
  unfold els elsTo
  rw [hm, List.range_add, List.flatMap_append, List.range_succ, List.flatMap_append]
  simp
def encN (n : Nat) : Array Value := #[.int .u16 (n : Int)]
def XN (ws : Nat → Nat) (pre : List Nat) (x : Nat) (_V : World) : Prop := ∃ rest, pre ++ x :: rest = els ws
/-- What lies below stays, and so does one block more. -/
def KN (n₀ B : Nat) (A C : World) : Prop := Below n₀ A C ∧ ∀ o, A.heap[B]? = some o → C.heap[B]? = some o
theorem KN.refl (n₀ B : Nat) (A : World) : KN n₀ B A A := ⟨Below.refl _ _, fun o h => h⟩
theorem KN.trans {n₀ B : Nat} {A C D : World} (h : KN n₀ B A C) (k : KN n₀ B C D) : KN n₀ B A D := ⟨h.1.trans k.1, fun o ho => k.2 o (h.2 o ho)⟩
theorem KN.of {n₀ B : Nat} {A C : World} (l : Later A C) (h : n₀ ≤ A.heap.size) : KN n₀ B A C := ⟨Below.mono l h, fun o ho => later_keep l ho⟩

set_option maxRecDepth 100000 in
set_option maxHeartbeats 2000000 in
theorem alln_in (n : Nat) (hn : 2 ≤ n) (l B b n₀ base : Nat) (low high : Int) (ws : Nat → Nat) (J Jx : List Nat → World → Prop)
    (hJ : ∀ s A B, J s A → Later A B → J s B)
    (hY : ∀ pre x V, J pre V → XN ws pre x V → YieldAt Fence.wide (n - 1) Tryd.prog l (encN x) V fun e V' => (e = .returned (.bool true) ∧ J (pre ++ [x]) V' ∧ KN n₀ B V V') ∨ (e = .returned (.bool false) ∧ Jx (pre ++ [x]) V'))
    (W : World) (hB : W.heap[B]? = some (.cells #[.pointer (some ⟨b, 2, none⟩)] 106 (0, 0))) (hn0 : n₀ ≤ W.heap.size) (hT : PB base W b low high ws) (hb : b < n₀) (hz : Dz W) (hz0 : 0 < n₀) (h0 : J [] W) :
    CallsIn Fence.wide n Tryd.prog 45 #[.func (.yield l) #[] #[], .pointer (some ⟨B, 0, none⟩)] W fun e W' => (∃ v, e = .returned v) ∧ ((∃ xs, xs = els ws ∧ J xs W') ∨ (∃ pre, True ∧ Jx pre W')) := by
  have HT := hide hT
  have HZ := hide hz
  have HBX := hide hB
  clear hz hB hT
  refine callsIn_of_wp Tryd.func45 rfl trivial ?_ rfl
  simp only [Tryd.ntmps45, List.size_toArray, List.length_cons, List.length_nil, Nat.reduceAdd, Nat.reduceSub, Array.replicate_succ, Array.replicate_zero, List.push_toArray, List.append_toArray, List.nil_append, List.cons_append]
  gi_wp2
  gi_loopw [5] (fun i wr => ∃ p : Nat, p ≤ 1024 ∧ i = .int .i64 (p : Int) ∧ J (elsTo ws p) wr ∧ KN n₀ B W wr) (fun i _ => 1024 - (intOf i).toNat)
  case atStart => exact ⟨0, by omega, rfl, h0, KN.refl _ _ _⟩
  case round =>
    obtain ⟨p, hp, rfl, hJp, hkp⟩ := hrel
    by_cases hlt : p < 1024
    · have hlt' : (p : Int) < 1024 := by omega
      have hbx := block_cell (hkp.2 _ HBX.out)
      have hTp : PB base wr b low high ws := ⟨HT.out.1, HT.out.2.1, (hkp.1.block b hb).trans HT.out.2.2⟩
      have hwd := hTp.word p hlt
      have hwl := hTp.2.1 p
      obtain ⟨rest, hrest⟩ := els_at ws p hlt
      have HRS := hide hrest
      clear hrest
      have hwe : wel ws p = (Pm.bl (ws p)).map (fun j => 64 * p + j) := rfl
      have HWE := hide hwe
      clear hwe
      generalize ws p = x0 at *
      gi_wp2
      rename World => w1
      gi_loopw [4] (fun lf wx => ∃ (x : Nat) (d : List Nat), lf = .int .u64 (x : Int) ∧ x < 18446744073709551616 ∧ d ++ Pm.bl x = Pm.bl x0 ∧ J (elsTo ws p ++ d.map (fun j => 64 * p + j)) wx ∧ KN n₀ B W wx) (fun lf _ => (Pm.bl (intOf lf).toNat).length)
      case atStart => exact ⟨x0, [], rfl, hwl, rfl, by rw [List.map_nil, List.append_nil]; exact hJp, hkp⟩
      case round =>
        obtain ⟨x, d, rfl, hxl, hdx, hJd, hkd⟩ := hrel
        by_cases hx0 : x = 0
        · subst hx0
          rw [Pm.bl_zero, List.append_nil] at hdx
          subst hdx
          gi_wp2
          go_roundw
          case rel => exact ⟨p + 1, by omega, by go_num, by rw [elsTo_succ, HWE.out]; exact hJd, hkd⟩
          case measure => simp [intOf]; omega
        · have hst := Pm.bl_step x hx0 hxl
          obtain ⟨hk, _⟩ := Pm.low_clear x hx0 hxl
          have HTZ := hide (tz_any x wr hxl hx0 (HZ.out.below hkd.1 hz0))
          have hnx : ((x : Int) != 0) = true := by simp; omega
          have hat : XN ws (elsTo ws p ++ d.map (fun j => 64 * p + j)) (64 * p + Lib.ctz 64 x) wr := by
            refine ⟨(Pm.bl (x &&& (x - 1))).map (fun j => 64 * p + j) ++ rest, ?_⟩
            rw [← HRS.out, HWE.out, ← hdx, hst]
            simp
          have hnext : d ++ [Lib.ctz 64 x] ++ Pm.bl (x &&& (x - 1)) = Pm.bl x0 := by rw [← hdx, hst]; simp
          have hlen : (Pm.bl (x &&& (x - 1))).length < (Pm.bl x).length := by rw [hst]; simp
          have hband : bits BinOp.and IntKind.u64 (x : Int) (IntKind.u64.wrap ((x : Int) - 1)) = ((x &&& (x - 1) : Nat) : Int) := by
            rw [show (x : Int) - 1 = ((x - 1 : Nat) : Int) from by omega, wrapN _ (by omega)]
            exact bits_and_u64_nat x (x - 1) hxl (by omega)
          have hbl : x &&& (x - 1) < 18446744073709551616 := Nat.lt_of_le_of_lt Nat.and_le_left hxl
          obtain ⟨fn, tmps, assign, body, hy, hR⟩ := hY _ _ _ hJd hat
          dsimp only [encN] at hy
          rw [show ((64 * p + Lib.ctz 64 x : Nat) : Int) = (p : Int) * 64 + (Lib.ctz 64 x : Int) from by omega] at hy
          have HNX := hide hnext
          have HLN := hide hlen
          have HBA := hide hband
          have HBL := hide hbl
          have HR := hide hR
          have hk' : (Lib.ctz 64 x : Int) < 64 := by omega
          clear hnext hlen hband hbl hR hat hst hk hdx hx0
          generalize Lib.ctz 64 x = k at *
          generalize x &&& (x - 1) = x2 at *
          gi_wp2
          refine ⟨trivial, ?_⟩
          refine ⟨fun _ => by omega, (callsIn_wide.2 HTZ.out).mono ?_⟩
          rintro e w3 ⟨rfl, rfl⟩
          gi_wp2
          refine ⟨fun _ => by omega, HR.out.mono ?_⟩
          rintro e W3 (⟨rfl, hJ3, hk3⟩ | ⟨rfl, hJx3⟩)
          · gi_wp2
            rw [HBA.out]
            go_roundw
            case rel => exact ⟨x2, d ++ [k], rfl, HBL.out, HNX.out, by rw [List.map_append, ← List.append_assoc]; exact hJ3, hkd.trans hk3⟩
            case measure => simpa [intOf] using HLN.out
          · gi_wp2
            refine bodyPost_ret (results_none rfl _ _ _) rfl ?_
            exact ⟨⟨_, rfl⟩, .inr ⟨_, trivial, hJx3⟩⟩
    · obtain rfl : p = 1024 := by omega
      gi_wp2
      go_end0
      exact ⟨⟨_, rfl⟩, .inl ⟨_, rfl, hJp⟩⟩
end Go.Proofs.YtomdccljoaieeaaDoor

/- Package pool: the numbers from low to high, one after the other. -/
namespace Go.Proofs.YtomdccljoaieeaaDoor
open Go.RowKit Go.Shelf
set_option maxRecDepth 100000
attribute [local go_sem] Oper.semAt_some
set_option linter.unusedVariables false
set_option linter.unusedSimpArgs false

theorem alln_gen (n : Nat) (hn : 2 ≤ n) (B b n₀ base : Nat) (low high : Int) (ws : Nat → Nat) (w : World) (hB : w.heap[B]? = some (.cells #[.pointer (some ⟨b, 2, none⟩)] 106 (0, 0))) (hn0 : n₀ ≤ w.heap.size) (hT : PB base w b low high ws) (hb : b < n₀) (hz : Dz w) (hz0 : 0 < n₀) :
    GenX Fence.wide n Tryd.prog 45 #[.pointer (some ⟨B, 0, none⟩)] encN (KN n₀ B) (XN ws) (fun xs => xs = els ws) (fun _ => True) w := fun l J Jx W hW hJ hY h0 =>
  alln_in n hn l B b n₀ base low high ws J Jx hJ hY W (later_keep hW hB) (Nat.le_trans hn0 (Below.size hW)) (hT.later hW) hb (hz.later hW) hz0 h0

theorem wrapi (x : Int) (h1 : -9223372036854775808 ≤ x) (h2 : x ≤ 9223372036854775807) : IntKind.i64.wrap x = x := by
  simp [IntKind.wrap, IntKind.signed, IntKind.bits]
  omega

theorem wp_calm {P : Program} {c : Code} {Q : Exit → Act → World → Prop} {a : Act} {w : World} (h : c.wp P (fun e a w => e = .normal ∧ Q .normal a w) a w) : c.wp P Q a w := wp_mono h (fun e a w h => by obtain ⟨rfl, h⟩ := h; exact h)

/-- Numbers from low to high. -/
def nums (low high : Nat) : List Nat := (List.range (high - low + 1)).map (fun i => low + i)
def XM (low high : Nat) (pre : List Nat) (x : Nat) (_V : World) : Prop := ∃ rest, pre ++ x :: rest = nums low high
/-- What lies below stays, one block more, and a pool's ends. -/
def KL (n₀ B b : Nat) (A C : World) : Prop := KN n₀ B A C ∧ ∀ i, i < 2 → ∀ v, A.cell? ⟨b, i, none⟩ = some v → C.cell? ⟨b, i, none⟩ = some v
theorem KL.refl (n₀ B b : Nat) (A : World) : KL n₀ B b A A := ⟨KN.refl _ _ _, fun i _ v h => h⟩
theorem KL.trans {n₀ B b : Nat} {A C D : World} (h : KL n₀ B b A C) (k : KL n₀ B b C D) : KL n₀ B b A D := ⟨h.1.trans k.1, fun i hi v hv => k.2 i hi v (h.2 i hi v hv)⟩
theorem KL.of {n₀ B b : Nat} {A C : World} (l : Later A C) (h : n₀ ≤ A.heap.size) : KL n₀ B b A C := ⟨KN.of l h, fun i _ v hv => l.cell hv⟩

set_option maxRecDepth 100000 in
set_option maxHeartbeats 2000000 in
theorem numb_in (n : Nat) (hn : 2 ≤ n) (l B b n₀ low high : Nat) (hlh : low ≤ high) (hh : high < 65536) (J Jx : List Nat → World → Prop)
    (hJ : ∀ s A B, J s A → Later A B → J s B)
    (hY : ∀ pre x V, J pre V → XM low high pre x V → YieldAt Fence.wide (n - 1) Tryd.prog l (encN x) V fun e V' => (e = .returned (.bool true) ∧ J (pre ++ [x]) V' ∧ KL n₀ B b V V') ∨ (e = .returned (.bool false) ∧ Jx (pre ++ [x]) V'))
    (W : World) (hB : W.heap[B]? = some (.cells #[.pointer (some ⟨b, 0, none⟩)] 27 (0, 0))) (hn0 : n₀ ≤ W.heap.size) (c0 : W.cell? ⟨b, 0, none⟩ = some (.int .u16 (low : Int))) (c1 : W.cell? ⟨b, 1, none⟩ = some (.int .u16 (high : Int))) (h0 : J [] W) :
    CallsIn Fence.wide n Tryd.prog 39 #[.func (.yield l) #[] #[], .pointer (some ⟨B, 0, none⟩)] W fun e W' => (∃ v, e = .returned v) ∧ ((∃ xs, xs = nums low high ∧ J xs W') ∨ (∃ pre, True ∧ Jx pre W')) := by
  have HBX := hide hB
  have HC0 := hide c0
  have HC1 := hide c1
  clear hB c0 c1
  have hlh' : (low : Int) ≤ (high : Int) := by omega
  have hh' : (high : Int) < 65536 := by omega
  refine callsIn_of_wp Tryd.func39 rfl trivial ?_ rfl
  simp only [Tryd.ntmps39, List.size_toArray, List.length_cons, List.length_nil, Nat.reduceAdd, Nat.reduceSub, Array.replicate_succ, Array.replicate_zero, List.push_toArray, List.append_toArray, List.nil_append, List.cons_append]
  refine wpIn_seq ?_
  refine wpIn_wide.2 (wp_calm ?_)
  refine anyR_begin (R := Later) Later.pre Later.drew 13 rfl (by kernel_rfl) (fun V1 hV1 => ?_)
  have q0 : ∀ v1, Later V1 v1 → v1.cell? ⟨b, 0, none⟩ = some (.int .u16 (low : Int)) := fun v1 h => (hV1.trans h).cell HC0.out
  have q1 : ∀ v1, Later V1 v1 → v1.cell? ⟨b, 1, none⟩ = some (.int .u16 (high : Int)) := fun v1 h => (hV1.trans h).cell HC1.out
  have q2 : ∀ v1, Later V1 v1 → ∀ j, v1.cell? ⟨B, j, none⟩ = #[Value.pointer (some ⟨b, 0, none⟩)][j]? := fun v1 h => block_cell (later_keep (hV1.trans h) HBX.out)
  refine anyR_val Later.pre 0 rfl (by kernel_rfl) (by kernel_rfl) (by kernel_rfl) (fun _ _ _ _ h => by cases h.1) rfl ?_; apply Exists.intro; refine ⟨fun w1 hw1 => ?_, ?_⟩; (· (go_simp; rfl)); simp only [Act.put, List.setIfInBounds_toArray, List.set_cons_zero, List.set_cons_succ]
  refine anyR_val Later.pre 1 rfl (by kernel_rfl) (by kernel_rfl) (by kernel_rfl) (fun _ _ _ _ h => by cases h.1) rfl ?_; apply Exists.intro; refine ⟨fun w1 hw1 => ?_, ?_⟩; (· (go_simp; rfl)); simp only [Act.put, List.setIfInBounds_toArray, List.set_cons_zero, List.set_cons_succ]
  refine anyR_val Later.pre 2 rfl (by kernel_rfl) (by kernel_rfl) (by kernel_rfl) (fun _ _ _ _ h => by cases h.1) rfl ?_; apply Exists.intro; refine ⟨fun w1 hw1 => ?_, ?_⟩; (· (go_simp; rfl)); simp only [Act.put, List.setIfInBounds_toArray, List.set_cons_zero, List.set_cons_succ]
  refine anyR_val Later.pre 3 rfl (by kernel_rfl) (by kernel_rfl) (by kernel_rfl) (fun _ _ _ _ h => by cases h.1) rfl ?_; apply Exists.intro; refine ⟨fun w1 hw1 => ?_, ?_⟩; (· (go_simp; rfl)); simp only [Act.put, List.setIfInBounds_toArray, List.set_cons_zero, List.set_cons_succ]
  refine anyR_val Later.pre 4 rfl (by kernel_rfl) (by kernel_rfl) (by kernel_rfl) (fun _ _ _ _ h => by cases h.1) rfl ?_; apply Exists.intro; refine ⟨fun w1 hw1 => ?_, ?_⟩; (· (go_simp; rfl)); simp only [Act.put, List.setIfInBounds_toArray, List.set_cons_zero, List.set_cons_succ]
  refine anyR_val Later.pre 5 rfl (by kernel_rfl) (by kernel_rfl) (by kernel_rfl) (fun _ _ _ _ h => by cases h.1) rfl ?_; apply Exists.intro; refine ⟨fun w1 hw1 => ?_, ?_⟩; (· (go_simp; rfl)); simp only [Act.put, List.setIfInBounds_toArray, List.set_cons_zero, List.set_cons_succ]
  refine anyR_val Later.pre 6 rfl (by kernel_rfl) (by kernel_rfl) (by kernel_rfl) (fun _ _ _ _ h => by cases h.1) rfl ?_; apply Exists.intro; refine ⟨fun w1 hw1 => ?_, ?_⟩; (· (go_simp; rfl)); simp only [Act.put, List.setIfInBounds_toArray, List.set_cons_zero, List.set_cons_succ]
  refine anyR_val Later.pre 7 rfl (by kernel_rfl) (by kernel_rfl) (by kernel_rfl) (fun _ _ _ _ h => by cases h.1) rfl ?_; apply Exists.intro; refine ⟨fun w1 hw1 => ?_, ?_⟩; (· (go_simp; rfl)); simp only [Act.put, List.setIfInBounds_toArray, List.set_cons_zero, List.set_cons_succ]
  refine anyR_val Later.pre 8 rfl (by kernel_rfl) (by kernel_rfl) (by kernel_rfl) (fun _ _ _ _ h => by cases h.1) rfl ?_; apply Exists.intro; refine ⟨fun w1 hw1 => ?_, ?_⟩; (· (go_simp; rfl)); simp only [Act.put, List.setIfInBounds_toArray, List.set_cons_zero, List.set_cons_succ]
  refine anyR_val Later.pre 9 rfl (by kernel_rfl) (by kernel_rfl) (by kernel_rfl) (fun _ _ _ _ h => by cases h.1) rfl ?_; apply Exists.intro; refine ⟨fun w1 hw1 => ?_, ?_⟩; (· (go_simp; rfl)); simp only [Act.put, List.setIfInBounds_toArray, List.set_cons_zero, List.set_cons_succ]
  refine anyR_val Later.pre 10 rfl (by kernel_rfl) (by kernel_rfl) (by kernel_rfl) (fun _ _ _ _ h => by cases h.1) rfl ?_; apply Exists.intro; refine ⟨fun w1 hw1 => ?_, ?_⟩; (· (go_simp; rfl)); simp only [Act.put, List.setIfInBounds_toArray, List.set_cons_zero, List.set_cons_succ]
  refine anyR_val Later.pre 11 rfl (by kernel_rfl) (by kernel_rfl) (by kernel_rfl) (fun _ _ _ _ h => by cases h.1) rfl ?_; apply Exists.intro; refine ⟨fun w1 hw1 => ?_, ?_⟩; (· (go_simp; rfl)); simp only [Act.put, List.setIfInBounds_toArray, List.set_cons_zero, List.set_cons_succ]
  refine anyR_val Later.pre 12 rfl (by kernel_rfl) (by kernel_rfl) (by kernel_rfl) (fun _ _ _ _ h => by cases h.1) rfl ?_; apply Exists.intro; refine ⟨fun w1 hw1 => ?_, ?_⟩; (· (go_simp; rfl)); simp only [Act.put, List.setIfInBounds_toArray, List.set_cons_zero, List.set_cons_succ]
  refine anyR_done (by kernel_rfl) (fun V2 hV2 => ⟨rfl, ?_⟩)
  have L2 := hV1.trans hV2
  clear q0 q1 q2 hlh' hh'
  have hwv : IntKind.i64.wrap (IntKind.i64.wrap (IntKind.i64.wrap (high : Int) - IntKind.i64.wrap (low : Int)) + 1) = (high : Int) - (low : Int) + 1 := by
    rw [wrapi (high : Int) (by omega) (by omega), wrapi (low : Int) (by omega) (by omega), wrapi ((high : Int) - (low : Int)) (by omega) (by omega), wrapi ((high : Int) - (low : Int) + 1) (by omega) (by omega)]
  rw [hwv]
  clear hwv
  generalize IntKind.i64.wrap (IntKind.i64.wrap (high : Int) - IntKind.i64.wrap (low : Int)) = z0 at *
  generalize IntKind.i64.wrap (high : Int) = z1 at *
  generalize IntKind.i64.wrap (low : Int) = z2 at *
  generalize hq : (high : Int) - (low : Int) + 1 = q at *
  have HQ := hide hq
  clear hq
  have hkl2 : KL n₀ B b W V2 := KL.of L2 hn0
  have hJ2 := hJ _ _ _ h0 L2
  gi_wp2
  gi_loopw [16] (fun i wr => ∃ p : Nat, p ≤ high - low + 1 ∧ i = .int .i64 (p : Int) ∧ J ((nums low high).take p) wr ∧ KL n₀ B b W wr) (fun i _ => high - low + 1 - (intOf i).toNat)
  case atStart => exact ⟨0, by omega, rfl, hJ2, hkl2⟩
  case round =>
    obtain ⟨p, hp, rfl, hJp, hkp⟩ := hrel
    have hnl : (nums low high).length = high - low + 1 := by unfold nums; simp
    by_cases hlt : p < high - low + 1
    · have hlt' : (p : Int) < q := by have := HQ.out; omega
      have hpl : p < (nums low high).length := by omega
      have hnp : (nums low high)[p] = low + p := by
        have h2 : (nums low high)[p]? = some (low + p) := by unfold nums; rw [List.getElem?_map, List.getElem?_range hlt]; rfl
        rw [List.getElem?_eq_getElem hpl] at h2
        exact Option.some.inj h2
      have hat : XM low high ((nums low high).take p) (low + p) wr := ⟨(nums low high).drop (p + 1), by rw [← hnp, ← List.drop_eq_getElem_cons hpl, List.take_append_drop]⟩
      have htk : (nums low high).take (p + 1) = (nums low high).take p ++ [low + p] := by rw [← hnp, List.take_append_getElem hpl]
      obtain ⟨fn, tmps, assign, body, hy, hR⟩ := hY _ _ _ hJp hat
      dsimp only [encN] at hy
      rw [show ((low + p : Nat) : Int) = (low : Int) + (p : Int) from by omega] at hy
      have HTK := hide htk
      have HR := hide hR
      have c0 := hkp.2 0 (by omega) _ HC0.out
      have hbx := block_cell (hkp.1.2 _ HBX.out)
      have HLT := hide hlt
      have hw6 : IntKind.u16.wrap ((low : Int) + IntKind.u16.wrap (p : Int)) = (low : Int) + (p : Int) := by
        have e1 : ∀ z : Int, IntKind.u16.wrap z = z % 65536 := fun z => by simp [IntKind.wrap, IntKind.signed, IntKind.bits]
        rw [e1, e1]
        omega
      have HW6 := hide hw6
      clear hw6
      clear hat htk hR hnp hpl hnl hlt hp
      gi_wp2
      rw [HW6.out]
      simp only [hy]
      refine ⟨fun _ => by omega, HR.out.mono ?_⟩
      rintro e W3 (⟨rfl, hJ3, hk3⟩ | ⟨rfl, hJx3⟩)
      · have hp6 : (p : Int) < 65536 := by have := HLT.out; omega
        gi_wp2
        go_roundw
        case rel => exact ⟨p + 1, by have := HLT.out; omega, by go_num, by rw [HTK.out]; exact hJ3, hkp.trans hk3⟩
        case measure => simp [intOf]; have := HLT.out; omega
      · gi_wp2
        refine bodyPost_ret (results_none rfl _ _ _) rfl ?_
        exact ⟨⟨_, rfl⟩, .inr ⟨_, trivial, hJx3⟩⟩
    · obtain rfl : p = high - low + 1 := by omega
      have hge : ¬ ((high - low + 1 : Nat) : Int) < q := by have := HQ.out; omega
      rw [List.take_of_length_le (by omega)] at hJp
      have HJ := hide hJp
      clear hJp
      clear hlt hp hnl
      generalize high - low + 1 = q2 at *
      gi_wp2
      go_end0
      first | exact ⟨⟨_, rfl⟩, .inl ⟨_, rfl, HJ.out⟩⟩ | exact ⟨⟨_, rfl⟩, .inl HJ.out⟩

theorem numb_gen (n : Nat) (hn : 2 ≤ n) (B b n₀ low high : Nat) (hlh : low ≤ high) (hh : high < 65536) (w : World) (hB : w.heap[B]? = some (.cells #[.pointer (some ⟨b, 0, none⟩)] 27 (0, 0))) (hn0 : n₀ ≤ w.heap.size) (c0 : w.cell? ⟨b, 0, none⟩ = some (.int .u16 (low : Int))) (c1 : w.cell? ⟨b, 1, none⟩ = some (.int .u16 (high : Int))) :
    GenX Fence.wide n Tryd.prog 39 #[.pointer (some ⟨B, 0, none⟩)] encN (KL n₀ B b) (XM low high) (fun xs => xs = nums low high) (fun _ => True) w := fun l J Jx W hW hJ hY h0 =>
  numb_in n hn l B b n₀ low high hlh hh J Jx hJ hY W (later_keep hW hB) (Nat.le_trans hn0 (Below.size hW)) ((show Later w W from hW).cell c0) ((show Later w W from hW).cell c1) h0
end Go.Proofs.YtomdccljoaieeaaDoor

/- Package pool: New. -/
namespace Go.Proofs.YtomdccljoaieeaaDoor
open Go.RowKit Go.Shelf
set_option maxRecDepth 100000
attribute [local go_sem] Oper.semAt_some
set_option linter.unusedVariables false
set_option linter.unusedSimpArgs false

theorem built_pool0 (low high : Int) : Tryd.prog.built 62 [(0, .int .u16 low), (1, .int .u16 high)] = some (Value.int .u16 low :: .int .u16 high :: List.replicate 1024 (.int .u64 0)).toArray := by kernel_rfl
theorem pcl_zero (low high : Int) : (Value.int .u16 low :: .int .u16 high :: List.replicate 1024 (.int .u64 0)) = pcl low high (fun _ => 0) := by
  unfold pcl
  congr 2
theorem built_pool (low high : Int) : Tryd.prog.built 62 [(0, .int .u16 low), (1, .int .u16 high)] = some (pcl low high (fun _ => 0)).toArray := by rw [built_pool0, pcl_zero]
theorem wpListIn_bld {F : Fence} {n : Nat} {P : Program} {ops : Array Oper} {rest : List Oper} {o : Oper} {a : Act} {Q : Exit → Act → World → Prop} {w : World} (hr : F.round = none) (hg : o.guard = none) (t : TypeId) (parts : Array (Nat × Operand)) (ho : o.op = .build t parts) (cs : Array Value) (ps : List (Nat × Value)) (hp : (parts.map fun (i, x) => (i, a.eval x)).toList = ps) (hb : P.built t ps = some cs)
    (hk : wpListIn F n P ops Q rest (a.put o.dst (.agg cs)) w) : wpListIn F n P ops Q (o :: rest) a w := wpListIn_plain hg fun K hK => by
  subst hp
  have h : (o.semAt F.round a.eval).run P w = .ok (.value (.agg cs)) w := by
    rw [hr]
    show (execOp a.eval o).run P w = _
    unfold execOp
    simp only [ho, Sem.run_bind, run_build w t _ cs hb, Result.andThen_ok, Sem.run_pure]
  unfold Oper.wpIn
  rw [h]
  exact ⟨fun f hf => (by unfold Oper.about at hf; rw [ho] at hf; cases hf), hK _ _ hk⟩

theorem numbers_in (n : Nat) (b : Nat) (w : World) :
    CallsIn Fence.wide n Tryd.prog 14 #[.pointer (some ⟨b, 0, none⟩)] w fun e w' => e = .returned (.func (.func 39) #[] #[.pointer (some ⟨w.heap.size, 0, none⟩)]) ∧ w' = w.alloc (.cells #[.pointer (some ⟨b, 0, none⟩)] 27) := by
  refine callsIn_of_wp Tryd.func14 rfl trivial ?_ rfl
  simp only [Tryd.ntmps14, List.size_toArray, List.length_cons, List.length_nil, Nat.reduceAdd, Nat.reduceSub, Array.replicate_succ, Array.replicate_zero, List.push_toArray, List.append_toArray, List.nil_append, List.cons_append]
  gi_wp2
  go_ret
  exact ⟨rfl, rfl⟩

/-- The words behind numbers that are added. -/
def wsA (ws : Nat → Nat) (n : Nat) : Nat → Nat := upd ws (n / 64) (ws (n / 64) ||| 2 ^ (n % 64))
def wsOf (l : List Nat) : Nat → Nat := l.foldl wsA (fun _ => 0)
theorem wsOf_snoc (l : List Nat) (x : Nat) : wsOf (l ++ [x]) = wsA (wsOf l) x := by unfold wsOf; rw [List.foldl_append]; rfl
theorem fr_zero (m : Nat) : fr (fun _ => 0) m = false := by unfold fr; simp
theorem fr_wsOf (m : Nat) (l : List Nat) : fr (wsOf l) m = decide (m ∈ l) := by
  suffices h : ∀ k : List Nat, fr (wsOf k.reverse) m = decide (m ∈ k.reverse) by simpa using h l.reverse
  intro k
  induction k with
  | nil => exact fr_zero m
  | cons x k ih =>
    rw [List.reverse_cons, wsOf_snoc]
    unfold wsA
    rw [fr_add, ih, Bool.eq_iff_iff]
    simp
theorem mem_nums {low high m : Nat} (h : low ≤ high) : m ∈ nums low high ↔ low ≤ m ∧ m ≤ high := by
  unfold nums
  simp
  constructor
  · rintro ⟨i, hi, rfl⟩; omega
  · intro h2; exact ⟨m - low, by omega, by omega⟩

def CT (A B : World) : Prop := A.heap.size ≤ B.heap.size ∧ ∀ (k : Nat) (o : Obj), A.heap[k]? = some o → o.isCells = true → B.heap[k]? = some o
theorem CT.of {A B : World} (h : Later A B) : CT A B := ⟨h.size, fun k o ho _ => later_keep h ho⟩
theorem CT.row {A B : World} {row : Option Nat} (hg : A.grownBy B row) (hr : ∀ r, row = some r → ∃ o : Obj, A.heap[r]? = some o ∧ o.isCells = false) : CT A B :=
  ⟨hg.size, fun k o ho hc => (hg.block k (Array.getElem?_eq_some_iff.1 ho).1 (fun e => by obtain ⟨o', h1, h2⟩ := hr k e.symm; rw [ho] at h1; cases h1; rw [hc] at h2; cases h2)).trans ho⟩
theorem CT.put {A : World} {l : Nat} {o o' : Obj} (h : A.heap[l]? = some o) (hc : o.isCells = false) : CT A (A.putObj l o') :=
  CT.row (grownBy_putObj' A l o') (fun r e => by cases e; exact ⟨o, h, hc⟩)

/-- What New keeps while it adds. -/
def PNw (rb low high : Nat) (pre : List Nat) (W : World) : Prop := PB rb W rb (low : Int) (high : Int) (wsOf pre) ∧ W.heap[rb + 1]? = some (.cells #[.pointer (some ⟨rb, 0, none⟩)] 27 (0, 0))
theorem PNw.ct {rb low high : Nat} {pre : List Nat} {A B : World} (h : PNw rb low high pre A) (c : CT A B) : PNw rb low high pre B := ⟨⟨h.1.1, h.1.2.1, c.2 _ _ h.1.2.2 rfl⟩, c.2 _ _ h.2 rfl⟩
theorem kl_put {n₀ B b m : Nat} (hn : n₀ ≤ m) (hB : B < m) (hb : b < m) {W : World} {l : Nat} {o o' : Obj} (hl : m ≤ l) (ho : W.heap[l]? = some o) (hc : o.isCells = false) (hw : o.isWalk = false) : KL n₀ B b W (W.putObj l o') := by
  have hg := grownBy_putObj' W l o'
  have hblk : ∀ i, i < m → (W.putObj l o').heap[i]? = W.heap[i]? := fun i hi => by
    refine hg.block i ?_ (fun e => by cases e; omega)
    have := (Array.getElem?_eq_some_iff.1 ho).1
    omega
  refine ⟨⟨⟨hg.os, hg.tape, hg.output, hg.size, fun i hi => hblk i (by omega)⟩, fun v hv => (hblk B hB).trans hv⟩, fun i _ v hv => ?_⟩
  unfold World.cell? at hv ⊢
  rw [hblk b hb]
  exact hv

set_option maxRecDepth 100000 in
set_option maxHeartbeats 4000000 in
theorem new8_yes (low high : Nat) (hl1 : 1 ≤ low) (hlh : low ≤ high) (hh : high < 65536) (w : World) :
    Calls Tryd.prog 5 #[.int .u16 (low : Int), .int .u16 (high : Int)] w fun e w' => e = .returned (.pointer (some ⟨w.heap.size, 0, none⟩)) ∧ Later w w' ∧ PB w.heap.size w' w.heap.size low high (wsOf (nums low high)) := by
  have hl0 : ¬ (low : Int) = 0 := by omega
  have hgt : ¬ (high : Int) < (low : Int) := by omega
  have hb4 : Later w (((w.alloc (.cells (pcl (low : Int) (high : Int) (fun _ => 0)).toArray 62)).alloc (.cells #[.pointer (some ⟨w.heap.size, 0, none⟩)] 27)).alloc (.cells #[.pointer (some ⟨w.heap.size, 0, none⟩)] 27)) := (((Below.refl _ _).alloc (Nat.le_refl _) _).alloc (by simp) _).alloc (by simp <;> omega) _
  have c0 : (((w.alloc (.cells (pcl (low : Int) (high : Int) (fun _ => 0)).toArray 62)).alloc (.cells #[.pointer (some ⟨w.heap.size, 0, none⟩)] 27)).alloc (.cells #[.pointer (some ⟨w.heap.size, 0, none⟩)] 27)).heap[w.heap.size]? = some (.cells (pcl (low : Int) (high : Int) (fun _ => 0)).toArray 62) := (Below.heap_alloc _ _ _ (by simp <;> omega)).trans ((Below.heap_alloc _ _ _ (by simp)).trans (heap_alloc_new w _))
  have c1 : (((w.alloc (.cells (pcl (low : Int) (high : Int) (fun _ => 0)).toArray 62)).alloc (.cells #[.pointer (some ⟨w.heap.size, 0, none⟩)] 27)).alloc (.cells #[.pointer (some ⟨w.heap.size, 0, none⟩)] 27)).heap[w.heap.size + 1]? = some (.cells #[.pointer (some ⟨w.heap.size, 0, none⟩)] 27) := by
    have := heap_alloc_new (w.alloc (.cells (pcl (low : Int) (high : Int) (fun _ => 0)).toArray 62)) (.cells #[.pointer (some ⟨w.heap.size, 0, none⟩)] 27)
    rw [World.size_alloc] at this
    exact (Below.heap_alloc _ _ _ (by simp)).trans this
  have c2 : (((w.alloc (.cells (pcl (low : Int) (high : Int) (fun _ => 0)).toArray 62)).alloc (.cells #[.pointer (some ⟨w.heap.size, 0, none⟩)] 27)).alloc (.cells #[.pointer (some ⟨w.heap.size, 0, none⟩)] 27)).heap[w.heap.size + 1 + 1]? = some (.cells #[.pointer (some ⟨w.heap.size, 0, none⟩)] 27) := by
    have := heap_alloc_new ((w.alloc (.cells (pcl (low : Int) (high : Int) (fun _ => 0)).toArray 62)).alloc (.cells #[.pointer (some ⟨w.heap.size, 0, none⟩)] 27)) (.cells #[.pointer (some ⟨w.heap.size, 0, none⟩)] 27)
    simpa only [World.size_alloc] using this
  have hs4 : (((w.alloc (.cells (pcl (low : Int) (high : Int) (fun _ => 0)).toArray 62)).alloc (.cells #[.pointer (some ⟨w.heap.size, 0, none⟩)] 27)).alloc (.cells #[.pointer (some ⟨w.heap.size, 0, none⟩)] 27)).heap.size = w.heap.size + 1 + 1 + 1 := by simp
  have C0 := hide c0
  have C1 := hide c1
  have C2 := hide c2
  have HS4 := hide hs4
  clear c0 c1 c2 hs4
  refine (callsIn_wide (n := 5)).1 ?_
  refine callsIn_of_wp_marks Tryd.func5 rfl trivial ?_ rfl
  simp only [Tryd.ntmps5, List.size_toArray, List.length_cons, List.length_nil, Nat.reduceAdd, Nat.reduceSub, Array.replicate_succ, Array.replicate_zero, List.push_toArray, List.append_toArray, List.nil_append, List.cons_append]
  gi_wp2_with (first | (refine wpListIn_bld rfl rfl 62 #[(0, .tmp 14), (1, .tmp 15)] rfl _ [(0, .int .u16 (low : Int)), (1, .int .u16 (high : Int))] (by go_loud (first | rfl | simp [go_sem])) (built_pool (low : Int) (high : Int)) ?_) | (refine ⟨trivial, ?_⟩; gi_at_call 14; refine (numbers_in _ _ _).mono ?_; rintro e w' ⟨rfl, rfl⟩))
  generalize (((w.alloc (.cells (pcl (low : Int) (high : Int) (fun _ => 0)).toArray 62)).alloc (.cells #[.pointer (some ⟨w.heap.size, 0, none⟩)] 27)).alloc (.cells #[.pointer (some ⟨w.heap.size, 0, none⟩)] 27)) = w4 at *
  have hs4 : w4.heap.size = w.heap.size + 1 + 1 + 1 := HS4.out
  have hPB0 : PB w.heap.size w4 w.heap.size (low : Int) (high : Int) (wsOf []) := ⟨Nat.le_refl _, fun i => by show 0 < _; omega, C0.out⟩
  refine wpIn_rangeX (w := w4) rfl (by omega) (gf := 39) (lb := #[.pointer (some ⟨w.heap.size + 1 + 1, 0, none⟩)]) rfl trivial (enters_of Tryd.func39 (by kernel_rfl) rfl)
    (numb_gen 4 (by omega) (w.heap.size + 1 + 1) w.heap.size w.heap.size low high hlh hh w4 C2.out (by omega) hPB0.low hPB0.high)
    (fun h k => h.trans k) (fun W l o o' hl ho hc hw => kl_put (by omega) (by omega) (by omega) hl ho hc hw) (fun hA hL => KL.of hL (by omega)) (fun _ _ _ _ h _ => h) (fun _ _ _ _ _ _ _ _ _ h => h) (fun _ => rfl)
    (fun pre W => PNw w.heap.size low high pre W ∧ Below w.heap.size w W) (fun pre W => False)
    (OwnFrom.and (fun s A B row hs hg hr => hs.ct (CT.row hg (fun r e => (hr r e).2))) (ownFrom_below (Nat.le_refl _) (by omega)))
    (fun s A B h l => ⟨h.1.ct (CT.of l), h.2.trans (l.mono h.2.size)⟩)
    (fun s A B row hs hg hr => hs)
    ⟨⟨hPB0, C1.out⟩, hb4⟩
    (fun x a' W => a' = { tmps := #[.int .u16 (low : Int), .int .u16 (high : Int), undef, undef, .pointer none, .pointer (some ⟨w.heap.size + 1, 0, none⟩), .int .u16 (x : Int), .int .u16 (low : Int), .bool false, .bool false, .int .u16 (low : Int), .int .u16 (high : Int), .bool false, .bool false, .int .u16 (low : Int), .int .u16 (high : Int), .agg (pcl (low : Int) (high : Int) (fun _ => 0)).toArray, .pointer (some ⟨w.heap.size, 0, none⟩), .pointer (some ⟨w.heap.size, 0, none⟩), .func (.func 39) #[] #[.pointer (some ⟨w.heap.size + 1 + 1, 0, none⟩)], .int .u16 (x : Int), undef, undef, undef, undef, undef, undef], defers := [] })
    (fun x a' W l o o' hl ho hc h => h) ?assign ?body ?done ?stop
  case assign =>
    rintro l pre x W K hsz _ hX hK
    dsimp only [encN]
    gi_wp2
    exact hK _ _ (Later.refl _) rfl
  case body =>
    rintro l pre x a' W ⟨⟨hPB, h1⟩, hbW⟩ hX rfl
    have hxm : x < 65536 := by
      obtain ⟨rest, e⟩ := hX
      have : x ∈ nums low high := by rw [← e]; simp
      have := (mem_nums hlh).1 this
      omega
    have HAD := hide (((callsIn_wide (n := 2)).2 (add_any w.heap.size w.heap.size (low : Int) (high : Int) (wsOf pre) x W hPB hxm)).inRound l)
    have K1 := block_cell h1
    have hbsz := hbW.size
    gi_wp2
    refine ⟨trivial, HAD.out.mono ?_⟩
    rintro e W1 ⟨⟨u, rfl⟩, hPB1, hbt1⟩
    have hb1 : Below w.heap.size W W1 := hbt1.below hbsz (fun k hk e => by omega)
    have h11 := (hbt1.block _ (Array.getElem?_eq_some_iff.1 h1).1 (by omega)).trans h1
    have hsn : wsOf (pre ++ [x]) = upd (wsOf pre) (x / 64) (wsOf pre (x / 64) ||| 2 ^ (x % 64)) := wsOf_snoc pre x
    have HSN := hide hsn
    clear hsn
    gi_wp2
    refine ⟨⟨hbt1.size, fun i o hi ho hc => (hbt1.block i (Array.getElem?_eq_some_iff.1 ho).1 (by omega)).trans ho⟩, ⟨⟨hb1, fun o ho => (hbt1.block _ (Array.getElem?_eq_some_iff.1 ho).1 (by omega)).trans ho⟩, fun i hi v hv => ?_⟩, ⟨by rw [HSN.out]; exact hPB1, h11⟩, hbW.trans hb1⟩
    rcases (show i = 0 ∨ i = 1 by omega) with rfl | rfl
    · rw [hPB.low] at hv
      rw [hPB1.low]
      exact hv
    · rw [hPB.high] at hv
      rw [hPB1.high]
      exact hv
  case done =>
    rintro D xs W hD rfl ⟨⟨hPB, h1⟩, hbW⟩ hK
    have K1 := block_cell h1
    gi_wp2
    refine ⟨by simp, .inl ⟨_, _, rfl, run_takeDeferred hK, ?_⟩⟩
    exact ⟨.pointer (some ⟨w.heap.size, 0, none⟩), by simp [results, Tryd.results5, go_sem], rfl, hbW.trans (belowK_b (w := w) (Nat.le_refl _) W D _ _ (by omega) hK rfl rfl), hPB.1, hPB.2.1, (CT.put (o' := .deferred none) hK rfl).2 _ _ hPB.2.2 rfl⟩
  case stop =>
    rintro D pre W hD hSp hF hK
    exact hF.elim
end Go.Proofs.YtomdccljoaieeaaDoor

/- Package pool: first. -/
namespace Go.Proofs.YtomdccljoaieeaaDoor
open Go.RowKit Go.Shelf
set_option maxRecDepth 100000
attribute [local go_sem] Oper.semAt_some
set_option linter.unusedVariables false
set_option linter.unusedSimpArgs false

def fsn (q : Bool) (wish : Nat) (L : List Nat) : Nat := if q then wish else L.head?.getD 0
def fsb (q : Bool) (L : List Nat) : Bool := q || !L.isEmpty
def XL (L : List Nat) (pre : List Nat) (x : Nat) (_V : World) : Prop := ∃ rest, pre ++ x :: rest = L
/-- What first keeps ahead of the first number. -/
def PF0 (rb : Nat) (pre : List Nat) (W : World) : Prop := pre = [] ∧ W.heap[rb]? = some (.cells #[.int .u16 0] 22 (0, 0)) ∧ W.heap[rb + 1]? = some (.cells #[.bool false] 4 (0, 0))
theorem PF0.ct {rb : Nat} {pre : List Nat} {A B : World} (h : PF0 rb pre A) (c : CT A B) : PF0 rb pre B := ⟨h.1, c.2 _ _ h.2.1 rfl, c.2 _ _ h.2.2 rfl⟩
def PF1 (rb : Nat) (L pre : List Nat) (W : World) : Prop := ∃ x rest, pre = [x] ∧ L = x :: rest ∧ W.heap[rb]? = some (.cells #[.int .u16 (x : Int)] 22 (0, 0)) ∧ W.heap[rb + 1]? = some (.cells #[.bool true] 4 (0, 0))
theorem PF1.ct {rb : Nat} {L pre : List Nat} {A B : World} (h : PF1 rb L pre A) (c : CT A B) : PF1 rb L pre B := by
  obtain ⟨x, rest, h1, h2, h3, h4⟩ := h
  exact ⟨x, rest, h1, h2, c.2 _ _ h3 rfl, c.2 _ _ h4 rfl⟩

theorem set_two {W : World} {rb : Nat} {x0 : Int} {t0 : Bool} (h0 : W.heap[rb]? = some (.cells #[.int .u16 x0] 22 (0, 0))) (h1 : W.heap[rb + 1]? = some (.cells #[.bool t0] 4 (0, 0))) (x : Int) (t : Bool) :
    ((W.setCell ⟨rb, 0, none⟩ (.int .u16 x)).setCell ⟨rb + 1, 0, none⟩ (.bool t)).heap[rb]? = some (.cells #[.int .u16 x] 22 (0, 0)) ∧ ((W.setCell ⟨rb, 0, none⟩ (.int .u16 x)).setCell ⟨rb + 1, 0, none⟩ (.bool t)).heap[rb + 1]? = some (.cells #[.bool t] 4 (0, 0)) ∧ But (fun g => g = rb ∨ g = rb + 1) W ((W.setCell ⟨rb, 0, none⟩ (.int .u16 x)).setCell ⟨rb + 1, 0, none⟩ (.bool t)) := by
  have v0 := heap_set1 h0 0 (.int .u16 x)
  have v1 := (Below.heap_setCell W ⟨rb, 0, none⟩ (.int .u16 x) (rb + 1) (by simp)).trans h1
  refine ⟨(Below.heap_setCell _ ⟨rb + 1, 0, none⟩ (.bool t) rb (by simp)).trans v0, heap_set1 v1 0 (.bool t), ?_⟩
  exact ((But.refl (fun g => g = rb ∨ g = rb + 1) W).setCell (p := ⟨rb, 0, none⟩) (.inl rfl) _).setCell (p := ⟨rb + 1, 0, none⟩) (.inr rfl) _

theorem first_end (rb D : Nat) (x : Int) (t : Bool) (W w : World) (hD : rb + 1 + 1 ≤ D) (hb : Below w.heap.size w W) (h1 : W.heap[rb]? = some (.cells #[.int .u16 x] 22 (0, 0))) (h2 : W.heap[rb + 1]? = some (.cells #[.bool t] 4 (0, 0))) (hK : W.heap[D]? = some (.deferred (some [])))
    (hrb : w.heap.size ≤ rb) (t0 t1 t2 t3 t4 t5 t8 t9 t10 t11 t12 t13 t14 t15 : Value) :
    bodyPostM Fence.wide 5 Tryd.prog Tryd.f22 (fun e w' => e = .returned (.tuple #[.int .u16 x, .bool t]) ∧ Later w w') Exit.ret
      { tmps := #[t0, t1, t2, t3, t4, t5, .pointer (some ⟨rb, 0, none⟩), .pointer (some ⟨rb + 1, 0, none⟩), t8, t9, t10, t11, t12, t13, t14, t15], defers := [{ target := .collected D, args := #[] }] } W := by
  refine ⟨by simp, .inl ⟨_, _, rfl, run_takeDeferred hK, ?_⟩⟩
  have z1 := (CT.put (o' := .deferred none) hK rfl).2 _ _ h1 rfl
  have z2 := (CT.put (o' := .deferred none) hK rfl).2 _ _ h2 rfl
  have k1 := block_cell z1
  have k2 := block_cell z2
  refine ⟨.tuple #[.int .u16 x, .bool t], by simp [results, Tryd.results22, go_sem, k1, k2], rfl, hb.trans (belowK_b (w := w) (Nat.le_refl _) W D _ _ (by omega) hK rfl rfl)⟩

set_option maxRecDepth 100000 in
set_option maxHeartbeats 4000000 in
theorem first8_any (wish cf gf : Nat) (pb : Value) (lb : Array Value) (q : Bool) (L : List Nat) (Kp : World → World → Prop) (w : World) (eg : ∀ args w, (callFunc cf args).run Tryd.prog w = .ok (.enter cf args) w) (egf : ∀ args w, (callFunc gf args).run Tryd.prog w = .ok (.enter gf args) w)
    (hq : ∀ W, Later w W → Calls Tryd.prog cf #[pb, .int .u16 (wish : Int)] W fun e W' => e = .returned (.bool q) ∧ Later W W')
    (hgen : ∀ w4, Later w w4 → GenX Fence.wide 4 Tryd.prog gf lb encN Kp (XL L) (fun xs => xs = L) (fun _ => True) w4)
    (hKt : ∀ {A B C : World}, Kp A B → Kp B C → Kp A C) (hKb : ∀ (w4 W : World) (l : Nat) (o o' : Obj), Later w w4 → w4.heap.size ≤ l → W.heap[l]? = some o → o.isCells = false → o.isWalk = false → Kp W (W.putObj l o'))
    (hKl : ∀ {w4 A B : World}, Later w w4 → w4.heap.size ≤ A.heap.size → Later A B → Kp A B) :
    Calls Tryd.prog 22 #[.int .u16 (wish : Int), .func (.func cf) #[pb] #[], .func (.func gf) #[] lb] w fun e w' => e = .returned (.tuple #[.int .u16 (fsn q wish L : Nat), .bool (fsb q L)]) ∧ Later w w' := by
  refine (callsIn_wide (n := 5)).1 ?_
  refine callsIn_of_wp_marks Tryd.func22 rfl trivial ?_ rfl
  simp only [Tryd.ntmps22, List.size_toArray, List.length_cons, List.length_nil, Nat.reduceAdd, Nat.reduceSub, Array.replicate_succ, Array.replicate_zero, List.push_toArray, List.append_toArray, List.nil_append, List.cons_append]
  have hb2 : Later w ((w.alloc (.cells #[.int .u16 0] 22)).alloc (.cells #[.bool false] 4)) := ((Below.refl _ _).alloc (Nat.le_refl _) _).alloc (by simp) _
  have c0 : ((w.alloc (.cells #[.int .u16 0] 22)).alloc (.cells #[.bool false] 4)).heap[w.heap.size]? = some (.cells #[.int .u16 0] 22) := (Below.heap_alloc _ _ _ (by simp)).trans (heap_alloc_new w _)
  have c1 : ((w.alloc (.cells #[.int .u16 0] 22)).alloc (.cells #[.bool false] 4)).heap[w.heap.size + 1]? = some (.cells #[.bool false] 4) := by
    have := heap_alloc_new (w.alloc (.cells #[.int .u16 0] 22)) (.cells #[.bool false] 4)
    rw [World.size_alloc] at this
    exact this
  have C0 := hide c0
  have C1 := hide c1
  have HQ := hide hq
  have HEG := hide eg
  clear c0 c1 hq eg
  gi_wp2
  refine ⟨trivial, ?_⟩
  rw [HEG.out]
  simp only [Oper.uponIn]
  generalize hw2 : (w.alloc (.cells #[.int .u16 0] 22)).alloc (.cells #[.bool false] 4) = w2 at *
  clear hw2
  refine ⟨fun _ => by omega, (callsIn_wide.2 (HQ.out w2 hb2)).mono ?_⟩
  rintro e w4 ⟨rfl, l4⟩
  have hb4 : Later w w4 := hb2.trans l4
  have d0 := later_keep l4 C0.out
  have d1 := later_keep l4 C1.out
  have hs4 : w.heap.size + 1 + 1 ≤ w4.heap.size := by have := (Array.getElem?_eq_some_iff.1 d1).1; omega
  cases q with
  | true =>
    have K0 := block_cell d0
    have K1 := block_cell d1
    have F0 := block_frozen d0
    have F1 := block_frozen d1
    gi_wp2
    obtain ⟨v0, v1, hb5⟩ := set_two d0 d1 (wish : Int) true
    generalize (w4.setCell ⟨w.heap.size, 0, none⟩ (.int .u16 (wish : Int))).setCell ⟨w.heap.size + 1, 0, none⟩ (.bool true) = V at *
    have k2 := block_cell v0
    have k3 := block_cell v1
    exact ⟨.tuple #[.int .u16 (wish : Int), .bool true], by simp [results, Tryd.results22, go_sem, k2, k3], rfl, Below.trans hb4 (hb5.below hb4.size (fun k hk e => by omega))⟩
  | false =>
    gi_wp2
    refine wpIn_rangeX (w := w4) rfl (by omega) (gf := gf) (lb := lb) rfl trivial egf (hgen w4 hb4) hKt (fun W l o o' hl ho hc hw => hKb w4 W l o o' hb4 hl ho hc hw) (fun hA hL => hKl hb4 hA hL) (fun _ _ _ _ h _ => h) (fun _ _ _ _ _ _ _ _ _ h => h) (fun _ => rfl)
      (fun pre W => PF0 w.heap.size pre W ∧ Below w.heap.size w W) (fun pre W => PF1 w.heap.size L pre W ∧ Below w.heap.size w W)
      (OwnFrom.and (fun s A B row hs hg hr => hs.ct (CT.row hg (fun r e => (hr r e).2))) (ownFrom_below (Nat.le_refl _) (by omega)))
      (fun s A B h l => ⟨h.1.ct (CT.of l), h.2.trans (l.mono h.2.size)⟩)
      (OwnFrom.and (fun s A B row hs hg hr => hs.ct (CT.row hg (fun r e => (hr r e).2))) (ownFrom_below (Nat.le_refl _) (by omega)))
      ⟨⟨rfl, d0, d1⟩, hb4⟩
      (fun x a' W => a' = { tmps := #[.int .u16 (wish : Int), .func (.func cf) #[pb] #[], .func (.func gf) #[] lb, undef, undef, undef, .pointer (some ⟨w.heap.size, 0, none⟩), .pointer (some ⟨w.heap.size + 1, 0, none⟩), .int .u16 (x : Int), .func (.func cf) #[pb] #[], .int .u16 (wish : Int), .bool false, undef, .func (.func gf) #[] lb, .int .u16 (x : Int), undef], defers := [] })
      (fun x a' W l o o' hl ho hc h => h) ?assign ?body ?done ?stop
    case assign =>
      rintro l pre x W K hsz _ hX hK
      dsimp only [encN]
      gi_wp2
      exact hK _ _ (Later.refl _) rfl
    case body =>
      rintro l pre x a' W ⟨⟨rfl, h0, h1⟩, hbW⟩ hX rfl
      obtain ⟨rest, hL⟩ := hX
      have K0 := block_cell h0
      have K1 := block_cell h1
      have F0 := block_frozen h0
      have F1 := block_frozen h1
      have hbsz := hbW.size
      gi_wp2
      obtain ⟨v0, v1, hb5⟩ := set_two h0 h1 (x : Int) true
      generalize (W.setCell ⟨w.heap.size, 0, none⟩ (.int .u16 (x : Int))).setCell ⟨w.heap.size + 1, 0, none⟩ (.bool true) = V at *
      exact ⟨⟨hb5.size, fun i o hi ho hc => (hb5.block i (Array.getElem?_eq_some_iff.1 ho).1 (by omega)).trans ho⟩, ⟨x, rest, rfl, hL.symm, v0, v1⟩, hbW.trans (hb5.below hbsz (fun k hk e => by omega))⟩
    case done =>
      rintro D xs W hD rfl ⟨⟨hx, h0, h1⟩, hbW⟩ hK
      subst hx
      have K0 := block_cell h0
      have K1 := block_cell h1
      have F0 := block_frozen h0
      have F1 := block_frozen h1
      have hbsz := hbW.size
      gi_wp2
      obtain ⟨v0, v1, hb5⟩ := set_two h0 h1 0 false
      have hD5 := (hb5.block D (Array.getElem?_eq_some_iff.1 hK).1 (by omega)).trans hK
      generalize (W.setCell ⟨w.heap.size, 0, none⟩ (.int .u16 0)).setCell ⟨w.heap.size + 1, 0, none⟩ (.bool false) = V at *
      exact first_end w.heap.size D 0 false V w (by omega) (hbW.trans (hb5.below hbsz (fun k hk e => by omega))) v0 v1 hD5 (Nat.le_refl _) _ _ _ _ _ _ _ _ _ _ _ _ _ _
    case stop =>
      rintro D pre W hD hSp ⟨⟨x, rest, rfl, hL, h0, h1⟩, hbW⟩ hK
      subst hL
      gi_wp2
      exact first_end w.heap.size D (x : Int) true W w (by omega) hbW h0 h1 hK (Nat.le_refl _) _ _ _ _ _ _ _ _ _ _ _ _ _ _
end Go.Proofs.YtomdccljoaieeaaDoor

/- Package pool: Has, Give, Take, Free. -/
namespace Go.Proofs.YtomdccljoaieeaaDoor
open Go.RowKit Go.Shelf
set_option maxRecDepth 100000
set_option linter.unusedVariables false
set_option linter.unusedSimpArgs false

/-- Is a number taken? -/
def hsP (low high : Nat) (ws : Nat → Nat) (n : Nat) : Bool := decide (low ≤ n) && (decide (n ≤ high) && !fr ws n)

theorem all8_in (b : Nat) (w : World) : Calls Tryd.prog 24 #[.pointer (some ⟨b, 2, none⟩)] w fun e w' => e = .returned (.func (.func 45) #[] #[.pointer (some ⟨w.heap.size, 0, none⟩)]) ∧ w' = w.alloc (.cells #[.pointer (some ⟨b, 2, none⟩)] 106) := by
  go_enter Tryd.func24, Tryd.ntmps24
  go_wp2_with fail
  go_ret
  exact ⟨rfl, rfl⟩

/-- The words behind a number that is removed. -/
def wsR (ws : Nat → Nat) (n : Nat) : Nat → Nat := upd ws (n / 64) (ws (n / 64) &&& (18446744073709551615 - 2 ^ (n % 64)))
/-- How Take leaves a pool. -/
def tkP (base : Nat) (W' : World) (b low high : Nat) (ws : Nat → Nat) (q : Bool) (L : List Nat) (n : Nat) : Prop := (fsb q L = false ∧ PB base W' b (low : Int) (high : Int) ws) ∨ (fsb q L = true ∧ PB base W' b (low : Int) (high : Int) (wsR ws n))

/-- What Take answers besides. -/
def tke (q : Bool) (L : List Nat) : Int := if fsb q L = true then 0 else 9
theorem tke_t {q : Bool} {L : List Nat} (h : fsb q L = true) : tke q L = 0 := by unfold tke; rw [if_pos h]
theorem tke_f {q : Bool} {L : List Nat} (h : fsb q L = false) : tke q L = 9 := by unfold tke; rw [if_neg (by rw [h]; simp)]

theorem els_lt {ws : Nat → Nat} {x : Nat} (h : x ∈ els ws) : x < 65536 := by
  unfold els elsTo wel at h
  obtain ⟨i, hi, hx⟩ := List.mem_flatMap.1 h
  obtain ⟨j, hj, rfl⟩ := List.mem_map.1 hx
  unfold Pm.bl at hj
  have h1 := (List.mem_filter.1 hj).1
  simp at hi h1
  omega

set_option maxHeartbeats 4000000 in
theorem take8_any (base b low high : Nat) (ws : Nat → Nat) (wish : Nat) (w : World) (hT : PB base w b (low : Int) (high : Int) ws) (hw : wish < 65536) (hz : Dz w) :
    Calls Tryd.prog 8 #[.pointer (some ⟨b, 0, none⟩), .int .u16 (wish : Int)] w fun e w' => e = .returned (.tuple #[.int .u16 (fsn (fr ws wish) wish (els ws) : Nat), .int .i64 (tke (fr ws wish) (els ws))]) ∧ tkP base w' b low high ws (fr ws wish) (els ws) (fsn (fr ws wish) wish (els ws)) ∧ But (fun g => g = b) w w' := by
  go_enter Tryd.func8, Tryd.ntmps8
  go_upto_region 3 with fail
  refine anyT_begin (R := But (fun _ => False)) 15 rfl (by kernel_rfl) ?_
  have ld : Later w w.drew := Later.drew w
  have hTd := hT.later ld
  have hzd := hz.later ld
  generalize w.drew = Wd at *
  refine anyT_val (But.pre _) 0 rfl (by kernel_rfl) (by kernel_rfl) (by kernel_rfl) (fun _ _ _ _ h => h) rfl ?_; apply Exists.intro; refine ⟨fun v1 hv1 => ?_, ?_⟩; (· (go_simp; rfl)); simp only [Act.put, List.setIfInBounds_toArray, List.set_cons_zero, List.set_cons_succ]
  refine anyT_val (But.pre _) 1 rfl (by kernel_rfl) (by kernel_rfl) (by kernel_rfl) (fun _ _ _ _ h => h) rfl ?_; apply Exists.intro; refine ⟨fun v1 hv1 => ?_, ?_⟩; (· (go_simp; rfl)); simp only [Act.put, List.setIfInBounds_toArray, List.set_cons_zero, List.set_cons_succ]
  refine anyT_val (But.pre _) 2 rfl (by kernel_rfl) (by kernel_rfl) (by kernel_rfl) (fun _ _ _ _ h => h) rfl ?_; apply Exists.intro; refine ⟨fun v1 hv1 => ?_, ?_⟩; (· (go_simp; rfl)); simp only [Act.put, List.setIfInBounds_toArray, List.set_cons_zero, List.set_cons_succ]
  refine anyT_val (But.pre _) 3 rfl (by kernel_rfl) (by kernel_rfl) (by kernel_rfl) (fun _ _ _ _ h => h) rfl ?_; apply Exists.intro; refine ⟨fun v1 hv1 => ?_, ?_⟩; (· (go_simp; rfl)); simp only [Act.put, List.setIfInBounds_toArray, List.set_cons_zero, List.set_cons_succ]
  refine anyT_val (But.pre _) 4 rfl (by kernel_rfl) (by kernel_rfl) (by kernel_rfl) (fun _ _ _ _ h => h) rfl ?_; apply Exists.intro; refine ⟨fun v1 hv1 => ?_, ?_⟩; (· (go_simp; rfl)); simp only [Act.put, List.setIfInBounds_toArray, List.set_cons_zero, List.set_cons_succ]
  refine anyT_val (But.pre _) 5 rfl (by kernel_rfl) (by kernel_rfl) (by kernel_rfl) (fun _ _ _ _ h => h) rfl ?_; apply Exists.intro; refine ⟨fun v1 hv1 => ?_, ?_⟩; (· (go_simp; rfl)); simp only [Act.put, List.setIfInBounds_toArray, List.set_cons_zero, List.set_cons_succ]
  refine anyT_val (But.pre _) 6 rfl (by kernel_rfl) (by kernel_rfl) (by kernel_rfl) (fun _ _ _ _ h => h) rfl ?_; apply Exists.intro; refine ⟨fun v1 hv1 => ?_, ?_⟩; (· (go_simp; rfl)); simp only [Act.put, List.setIfInBounds_toArray, List.set_cons_zero, List.set_cons_succ]
  refine anyT_val (But.pre _) 7 rfl (by kernel_rfl) (by kernel_rfl) (by kernel_rfl) (fun _ _ _ _ h => h) rfl ?_; apply Exists.intro; refine ⟨fun v1 hv1 => ?_, ?_⟩; (· (go_simp; rfl)); simp only [Act.put, List.setIfInBounds_toArray, List.set_cons_zero, List.set_cons_succ]
  refine anyT_one 8 rfl (by kernel_rfl) rfl ?_
  refine wp_enter 24 #[.pointer (some ⟨b, 2, none⟩)] (by go_simp) ?_
  refine (all8_in b Wd).mono ?_
  rintro e W1 ⟨rfl, hW1⟩
  have la : Later Wd W1 := by rw [hW1]; exact (Below.refl _ _).alloc (Nat.le_refl _) _
  have hbx : W1.heap[Wd.heap.size]? = some (.cells #[.pointer (some ⟨b, 2, none⟩)] 106 (0, 0)) := by rw [hW1]; exact heap_alloc_new _ _
  clear hW1
  refine ⟨But.of la, ?_⟩
  simp only [Act.put, List.setIfInBounds_toArray, List.set_cons_zero, List.set_cons_succ]
  have hT1 := hTd.later la
  have hz1 := hzd.later la
  have hbl := hTd.lt
  generalize Wd.heap.size = B at *
  have hBl : B < W1.heap.size := (Array.getElem?_eq_some_iff.1 hbx).1
  have HF := hide (first8_any wish 23 45 (.pointer (some ⟨b, 2, none⟩)) #[.pointer (some ⟨B, 0, none⟩)] (fr ws wish) (els ws) (KN (b + 1) B) W1
    (enters_of Tryd.func23 (by kernel_rfl) rfl) (enters_of Tryd.func45 (by kernel_rfl) rfl)
    (fun W hW => has_any base b (low : Int) (high : Int) ws wish W (hT1.later hW) hw)
    (fun w4 h4 => alln_gen 4 (by omega) B b (b + 1) base (low : Int) (high : Int) ws w4 (later_keep h4 hbx) (by have := Below.size h4; omega) (hT1.later h4) (by omega) (hz1.later h4) (by omega))
    (fun h k => h.trans k) (fun w4 W l o o' h4 hl ho hc hw => (kl_put (b := b) (m := w4.heap.size) (by have := Below.size h4; omega) (by have := Below.size h4; omega) (by have := Below.size h4; omega) hl ho hc hw).1) (fun h4 hA hL => KN.of hL (by have := Below.size h4; omega)))
  refine anyT_one 9 rfl (by kernel_rfl) rfl ?_
  refine wp_enter 22 #[.int .u16 (wish : Int), .func (.func 23) #[.pointer (some ⟨b, 2, none⟩)] #[], .func (.func 45) #[] #[.pointer (some ⟨B, 0, none⟩)]] (by go_simp) ?_
  refine HF.out.mono ?_
  rintro e W2 ⟨rfl, l2⟩
  refine ⟨But.of l2, ?_⟩
  simp only [Act.put, List.setIfInBounds_toArray, List.set_cons_zero, List.set_cons_succ]
  have hlim : fsb (fr ws wish) (els ws) = true → fsn (fr ws wish) wish (els ws) < 65536 := fun h => by
    unfold fsb at h
    unfold fsn
    cases hq : fr ws wish with
    | true => simpa using hw
    | false =>
      rw [hq] at h
      cases hL : els ws with
      | nil => rw [hL] at h; simp at h
      | cons x L =>
        have : x ∈ els ws := by rw [hL]; simp
        simpa using els_lt this
  have HLM := hide hlim
  have hbW2 : But (fun g => g = b) w W2 := (But.of ld).trans ((But.of la).trans (But.of l2))
  have hT2 := hT1.later l2
  clear hlim HF la l2 ld hTd hT1 hzd hz1
  generalize hqe : fr ws wish = q at *
  generalize hLe : els ws = L at *
  have HQE := hide hqe
  have HLE := hide hLe
  clear hqe hLe
  generalize hne : fsn q wish L = n at *
  have HNE := hide hne
  clear hne
  cases hbe : fsb q L with
  | true =>
    rw [hbe] at HLM
    have hn := HLM.out rfl
    have HBE := hide hbe
    clear hbe
    refine anyT_val (But.pre _) 10 rfl (by kernel_rfl) (by kernel_rfl) (by kernel_rfl) (fun _ _ _ _ h => h) rfl ?_; apply Exists.intro; refine ⟨fun v1 hv1 => ?_, ?_⟩; (· (go_simp; rfl)); simp only [Act.put, List.setIfInBounds_toArray, List.set_cons_zero, List.set_cons_succ]
    refine anyT_val (But.pre _) 11 rfl (by kernel_rfl) (by kernel_rfl) (by kernel_rfl) (fun _ _ _ _ h => h) rfl ?_; apply Exists.intro; refine ⟨fun v1 hv1 => ?_, ?_⟩; (· (go_simp; rfl)); simp only [Act.put, List.setIfInBounds_toArray, List.set_cons_zero, List.set_cons_succ]
    refine anyT_val (But.pre _) 12 rfl (by kernel_rfl) (by kernel_rfl) (by kernel_rfl) (fun _ _ _ _ h => h) rfl ?_; apply Exists.intro; refine ⟨fun v1 hv1 => ?_, ?_⟩; (· (go_simp; rfl)); simp only [Act.put, List.setIfInBounds_toArray, List.set_cons_zero, List.set_cons_succ]
    refine anyT_val (But.pre _) 13 rfl (by kernel_rfl) (by kernel_rfl) (by kernel_rfl) (fun _ _ _ _ h => h) rfl ?_; apply Exists.intro; refine ⟨fun v1 hv1 => ?_, ?_⟩; (· (go_simp; rfl)); simp only [Act.put, List.setIfInBounds_toArray, List.set_cons_zero, List.set_cons_succ]
    refine anyT_val (But.pre _) 14 rfl (by kernel_rfl) (by kernel_rfl) (by kernel_rfl) (fun _ _ _ _ h => h) rfl ?_; apply Exists.intro; refine ⟨fun v1 hv1 => ?_, ?_⟩; (· (go_simp; rfl)); simp only [Act.put, List.setIfInBounds_toArray, List.set_cons_zero, List.set_cons_succ]
    refine anyT_done (by kernel_rfl) ?_
    go_wp2_with fail
    refine (remove_any base b (low : Int) (high : Int) ws n W2 hT2 hn).mono ?_
    rintro e W3 ⟨⟨v, rfl⟩, hT3, hb3⟩
    have hfb := hbW2.trans hb3
    go_wp2_with fail
    refine bodyPost_ret (v := .tuple #[.int .u16 (n : Int), .int .i64 0]) (by simp [results, Tryd.results8, go_sem]) rfl ?_
    rw [HQE.out, HLE.out, HNE.out, tke_t HBE.out]
    exact ⟨rfl, .inr ⟨HBE.out, hT3⟩, hfb⟩
  | false =>
    have HBE := hide hbe
    clear hbe
    refine anyT_val (But.pre _) 10 rfl (by kernel_rfl) (by kernel_rfl) (by kernel_rfl) (fun _ _ _ _ h => h) rfl ?_; apply Exists.intro; refine ⟨fun v1 hv1 => ?_, ?_⟩; (· (go_simp; rfl)); simp only [Act.put, List.setIfInBounds_toArray, List.set_cons_zero, List.set_cons_succ]
    refine anyT_val (But.pre _) 11 rfl (by kernel_rfl) (by kernel_rfl) (by kernel_rfl) (fun _ _ _ _ h => h) rfl ?_; apply Exists.intro; refine ⟨fun v1 hv1 => ?_, ?_⟩; (· (go_simp; rfl)); simp only [Act.put, List.setIfInBounds_toArray, List.set_cons_zero, List.set_cons_succ]
    refine anyT_val (But.pre _) 12 rfl (by kernel_rfl) (by kernel_rfl) (by kernel_rfl) (fun _ _ _ _ h => h) rfl ?_; apply Exists.intro; refine ⟨fun v1 hv1 => ?_, ?_⟩; (· (go_simp; rfl)); simp only [Act.put, List.setIfInBounds_toArray, List.set_cons_zero, List.set_cons_succ]
    refine anyT_val (But.pre _) 13 rfl (by kernel_rfl) (by kernel_rfl) (by kernel_rfl) (fun _ _ _ _ h => h) rfl ?_; apply Exists.intro; refine ⟨fun v1 hv1 => ?_, ?_⟩; (· (go_simp; rfl)); simp only [Act.put, List.setIfInBounds_toArray, List.set_cons_zero, List.set_cons_succ]
    refine anyT_val (But.pre _) 14 rfl (by kernel_rfl) (by kernel_rfl) (by kernel_rfl) (fun _ _ _ _ h => h) rfl ?_; apply Exists.intro; refine ⟨fun v1 hv1 => ?_, ?_⟩; (· (go_simp; rfl)); simp only [Act.put, List.setIfInBounds_toArray, List.set_cons_zero, List.set_cons_succ]
    refine anyT_done (by kernel_rfl) ?_
    go_wp2_with fail
    refine bodyPost_ret (v := .tuple #[.int .u16 0, .int .i64 9]) (by simp [results, Tryd.results8, go_sem]) rfl ?_
    rw [HQE.out, HLE.out, HNE.out, tke_f HBE.out]
    have hn0 : n = 0 := by
      rw [← HNE.out]
      have := HBE.out
      unfold fsb at this
      unfold fsn
      cases q with
      | true => simp at this
      | false =>
        cases L with
        | nil => rfl
        | cons x L => simp at this
    subst hn0
    exact ⟨rfl, .inl ⟨HBE.out, hT2⟩, hbW2⟩
end Go.Proofs.YtomdccljoaieeaaDoor

/- Package pool: the numbers of a set by their test; Used, where none is taken. -/
namespace Go.Proofs.YtomdccljoaieeaaDoor
open Go.RowKit Go.Shelf
set_option maxRecDepth 100000
attribute [local go_sem] Oper.semAt_some
set_option linter.unusedVariables false
set_option linter.unusedSimpArgs false

theorem filter_interval (p : Nat → Bool) (N a b : Nat) (hab : a ≤ b) (hb : b < N) (h : ∀ m, m < N → p m = decide (a ≤ m ∧ m ≤ b)) : (List.range N).filter p = nums a b := by
  obtain ⟨r, hr⟩ : ∃ r, N = a + (b - a + 1) + r := ⟨N - b - 1, by omega⟩
  have e1 : (List.range a).filter p = [] := by
    rw [List.filter_eq_nil_iff]
    intro m hm
    have : m < a := by simpa using hm
    rw [h m (by omega)]
    simp
    omega
  have e2 : ((List.range (b - a + 1)).map (fun i => a + i)).filter p = nums a b := by
    unfold nums
    rw [List.filter_eq_self]
    intro m hm
    obtain ⟨i, hi, rfl⟩ := List.mem_map.1 hm
    have : i < b - a + 1 := by simpa using hi
    rw [h _ (by omega)]
    simp
    omega
  have e3 : ((List.range r).map (fun i => a + (b - a + 1) + i)).filter p = [] := by
    rw [List.filter_eq_nil_iff]
    intro m hm
    obtain ⟨i, hi, rfl⟩ := List.mem_map.1 hm
    have : i < r := by simpa using hi
    rw [h _ (by omega)]
    simp
    omega
  rw [hr, List.range_add, List.range_add, List.filter_append, List.filter_append, e1, e2, e3]
  simp

theorem elsTo_eq (ws : Nat → Nat) : ∀ i, elsTo ws i = (List.range (64 * i)).filter (fr ws)
  | 0 => by unfold elsTo; simp
  | i + 1 => by
    rw [elsTo_succ, elsTo_eq ws i, show 64 * (i + 1) = 64 * i + 64 from by omega, List.range_add, List.filter_append]
    congr 1
    unfold wel Pm.bl
    rw [List.filter_map]
    congr 1
    refine List.filter_congr fun j hj => ?_
    have : j < 64 := by simpa using hj
    simp only [Function.comp]
    unfold fr
    rw [show (64 * i + j) / 64 = i from by omega, show (64 * i + j) % 64 = j from by omega]
theorem els_eq (ws : Nat → Nat) : els ws = (List.range 65536).filter (fr ws) := elsTo_eq ws 1024
theorem cnt_eq (ws : Nat → Nat) : ∀ i, cnt ws i = (elsTo ws i).length
  | 0 => by unfold elsTo cnt; simp
  | i + 1 => by
    rw [elsTo_succ, List.length_append, ← cnt_eq ws i]
    show cnt ws i + Pm.pcn 64 (ws i) = _
    unfold wel
    rw [List.length_map, Pm.bl_pcn]
    rfl
theorem els_interval (ws : Nat → Nat) (a b : Nat) (hab : a ≤ b) (hb : b < 65536) (h : ∀ m, m < 65536 → fr ws m = decide (a ≤ m ∧ m ≤ b)) : els ws = nums a b := by
  rw [els_eq]
  exact filter_interval (fr ws) 65536 a b hab hb h
theorem els_none (ws : Nat → Nat) (h : ∀ m, m < 65536 → fr ws m = false) : els ws = [] := by
  rw [els_eq, List.filter_eq_nil_iff]
  intro m hm
  rw [h m (by simpa using hm)]
  simp
theorem nums_length (a b : Nat) : (nums a b).length = b - a + 1 := by unfold nums; simp
theorem nums_cons (a b : Nat) (h : a ≤ b) : ∃ L, nums a b = a :: L := by
  unfold nums
  rw [List.range_succ_eq_map]
  exact ⟨_, rfl⟩

theorem PB.below {base n₀ : Nat} {A B : World} {b : Nat} {low high : Int} {ws : Nat → Nat} (h : PB base A b low high ws) (l : Below n₀ A B) (hb : b < n₀) : PB base B b low high ws := ⟨h.1, h.2.1, (l.block b hb).trans h.2.2⟩

/-- What Used keeps while it finds none. -/
def PUd (rb b : Nat) (W : World) : Prop := W.heap[rb]? = some (.cells #[.pointer (some ⟨b, 0, none⟩)] 27 (0, 0)) ∧ W.heap[rb + 1]? = some (.cells #[.slice none 0 0] 110 (0, 0))
theorem PUd.ct {rb b : Nat} {A B : World} (h : PUd rb b A) (c : CT A B) : PUd rb b B := ⟨c.2 _ _ h.1 rfl, c.2 _ _ h.2 rfl⟩

end Go.Proofs.YtomdccljoaieeaaDoor

/- Package rules: rules as they lie in memory; their upper bits. -/
namespace Go.Proofs.YtomdccljoaieeaaDoor
open Go.RowKit Go.Shelf
set_option maxRecDepth 100000
set_option linter.unusedVariables false
set_option linter.unusedSimpArgs false

/-- A rule. -/
structure Ru where
  kind : Int
  proto : Int
  net : Int
  bits : Int
  tt : Int
  port : Int
  host : Int
  hp : Int
deriving DecidableEq
def ruc (r : Ru) : List Value := [.int .i64 r.kind, .int .u8 r.proto, .int .u32 r.net, .int .i64 r.bits, .int .u32 r.tt, .int .u16 r.port, .int .u32 r.host, .int .u16 r.hp]
def zRu : Ru := ⟨0, 0, 0, 0, 0, 0, 0, 0⟩
def rus (l : List Ru) : List Value := l.flatMap ruc
theorem ruc_length (r : Ru) : (ruc r).length = 8 := rfl
theorem rus_length (l : List Ru) : (rus l).length = l.length * 8 := by
  induction l with
  | nil => rfl
  | cons r l ih => unfold rus at ih ⊢; rw [List.flatMap_cons, List.length_append, ih, ruc_length, List.length_cons]; omega
theorem rus_snoc (l : List Ru) (r : Ru) : rus (l ++ [r]) = rus l ++ ruc r := by unfold rus; simp
theorem rus_append (l m : List Ru) : rus (l ++ m) = rus l ++ rus m := by unfold rus; simp
theorem rus_at : ∀ (l : List Ru) (j i : Nat) (hj : j < l.length), i < 8 → (rus l)[j * 8 + i]? = (ruc l[j])[i]?
  | r :: l, 0, i, _, hi => by
    unfold rus
    rw [List.flatMap_cons, Nat.zero_mul, Nat.zero_add, List.getElem?_append_left (by rw [ruc_length]; exact hi)]
    rfl
  | r :: l, j + 1, i, hj, hi => by
    have ih := rus_at l j i (by simpa using hj) hi
    unfold rus at ih ⊢
    rw [List.flatMap_cons, List.getElem?_append_right (by rw [ruc_length]; omega), ruc_length, show (j + 1) * 8 + i - 8 = j * 8 + i from by omega, ih]
    rfl
/-- Its numbers are of their types. -/
def wfR (r : Ru) : Prop := (-9223372036854775808 ≤ r.kind ∧ r.kind ≤ 9223372036854775807) ∧ (0 ≤ r.proto ∧ r.proto ≤ 255) ∧ (0 ≤ r.net ∧ r.net ≤ 4294967295) ∧ (-9223372036854775808 ≤ r.bits ∧ r.bits ≤ 9223372036854775807) ∧ (0 ≤ r.tt ∧ r.tt ≤ 4294967295) ∧ (0 ≤ r.port ∧ r.port ≤ 65535) ∧ (0 ≤ r.host ∧ r.host ≤ 4294967295) ∧ (0 ≤ r.hp ∧ r.hp ≤ 65535)
/-- The slice value reads as these rules, all of it below block n₀. -/
def RdQ (n₀ : Nat) (W : World) (sv : Value) (l : List Ru) : Prop :=
  (∃ a cap, sv = .slice a 0 cap ∧ l = [] ∧ cap ≤ 9223372036854775807 ∧ (a = none → cap = 0)) ∨
  ∃ b off cap, sv = .slice (some ⟨b, off, none⟩) l.length cap ∧ l ≠ [] ∧ l.length ≤ cap ∧ cap ≤ 9223372036854775807 ∧ b < n₀ ∧ ∀ j (hj : j < l.length), ∀ i, i < 8 → W.cell? ⟨b, off + j * 8 + i, none⟩ = (ruc l[j])[i]?
theorem RdQ.below {n₀ : Nat} {A B : World} (h : Below n₀ A B) {sv : Value} {l : List Ru} : RdQ n₀ A sv l → RdQ n₀ B sv l
  | .inl e => .inl e
  | .inr ⟨b, off, cap, e, hne, hl, hm, hb, hc⟩ => .inr ⟨b, off, cap, e, hne, hl, hm, hb, fun j hj i hi => (h.cell (p := ⟨b, off + j * 8 + i, none⟩) hb).trans (hc j hj i hi)⟩
theorem RdQ.mono {n₀ n₁ : Nat} {A : World} (h : n₀ ≤ n₁) {sv : Value} {l : List Ru} : RdQ n₀ A sv l → RdQ n₁ A sv l
  | .inl e => .inl e
  | .inr ⟨b, off, cap, e, hne, hl, hm, hb, hc⟩ => .inr ⟨b, off, cap, e, hne, hl, hm, Nat.lt_of_lt_of_le hb h, hc⟩
theorem RdQ.slice {n₀ : Nat} {A : World} {sv : Value} {l : List Ru} : RdQ n₀ A sv l → ∃ a cap, sv = .slice a l.length cap ∧ l.length ≤ cap ∧ cap ≤ 9223372036854775807
  | .inl ⟨a, cap, e, hz, hm, _⟩ => ⟨a, cap, by rw [e, hz]; rfl, by rw [hz]; exact Nat.zero_le _, hm⟩
  | .inr ⟨b, off, cap, e, _, hl, hm, _⟩ => ⟨_, cap, e, hl, hm⟩
theorem RdQ.cells {n₀ : Nat} {W : World} {sv : Value} {l : List Ru} (h : RdQ n₀ W sv l) (hne : 0 < l.length) : ∃ b off cap, sv = .slice (some ⟨b, off, none⟩) l.length cap ∧ l.length ≤ cap ∧ cap ≤ 9223372036854775807 ∧ b < n₀ ∧ ∀ j (hj : j < l.length), ∀ i, i < 8 → W.cell? ⟨b, off + j * 8 + i, none⟩ = (ruc l[j])[i]? := by
  rcases h with ⟨a, cap, _, rfl, _⟩ | ⟨b, off, cap, e, _, hl, hm, hb, hc⟩
  · simp at hne
  · exact ⟨b, off, cap, e, hl, hm, hb, hc⟩
/-- What one's own row of rules reads as. -/
theorem ownU_rd {base : Nat} {W : World} {v : Value} {l : List Ru} (h : W.ownsRow base 33 8 v l.length (rus l)) : RdQ W.heap.size W v l := by
  obtain ⟨h1, ⟨rfl, h0⟩ | ⟨g, cap, cur, rfl, hg, hh, hl, hm, hs, hc⟩⟩ := h
  · have : l = [] := List.eq_nil_of_length_eq_zero h0
    subst this
    exact .inl ⟨none, 0, rfl, rfl, by omega, fun _ => rfl⟩
  · by_cases hn : l = []
    · subst hn
      exact .inl ⟨_, cap, rfl, rfl, by simpa [maxLen] using hm, fun h => by cases h⟩
    · refine .inr ⟨g, 0, cap, rfl, hn, hl, by simpa [maxLen] using hm, (Array.getElem?_eq_some_iff.1 hh).1, fun j hj i hi => ?_⟩
      rw [Nat.zero_add, block_cell hh, ← rus_at l j i hj hi, ← hc, List.getElem?_take_of_lt (by omega)]
      simp
theorem ownU_later {base : Nat} {A B : World} {v : Value} {n : Nat} {xs : List Value} (h : A.ownsRow base 33 8 v n xs) (l : Later A B) : B.ownsRow base 33 8 v n xs := by
  obtain ⟨h1, h2 | ⟨g, cap, cur, hv, hg, hh, r⟩⟩ := h
  · exact ⟨h1, .inl h2⟩
  · exact ⟨h1, .inr ⟨g, cap, cur, hv, hg, later_keep l hh, r⟩⟩
/-- Rules as they lie in memory: at block b, of type t, the list in a block of its own. -/
def RL (t : TypeId) (base : Nat) (W : World) (b : Nat) (v : Value) (l : List Ru) : Prop := base ≤ b ∧ W.heap[b]? = some (.cells #[v] t (0, 0)) ∧ W.ownsRow base 33 8 v l.length (rus l)
theorem RL.later {t : TypeId} {base : Nat} {A B : World} {b : Nat} {v : Value} {l : List Ru} (h : RL t base A b v l) (k : Later A B) : RL t base B b v l := ⟨h.1, later_keep k h.2.1, ownU_later h.2.2 k⟩
theorem RL.but {t : TypeId} {base : Nat} {A B : World} {b : Nat} {v : Value} {l : List Ru} {E : Nat → Prop} (h : RL t base A b v l) (k : But E A B) (hb : ¬ E b) (hv : ∀ g, v.ownBlock = some g → ¬ E g) : RL t base B b v l := by
  refine ⟨h.1, (k.block b (Array.getElem?_eq_some_iff.1 h.2.1).1 hb).trans h.2.1, ?_⟩
  obtain ⟨h1, h2 | ⟨g, cap, cur, e, hg, hh, r⟩⟩ := h.2.2
  · exact ⟨h1, .inl h2⟩
  · exact ⟨h1, .inr ⟨g, cap, cur, e, hg, (k.block g (Array.getElem?_eq_some_iff.1 hh).1 (hv g (by rw [e]; rfl))).trans hh, r⟩⟩
/-- The list's block is no object's. -/
theorem RL.ne {t t2 : TypeId} {base : Nat} {W : World} {b c : Nat} {v : Value} {l : List Ru} {cur : Array Value} (h : RL t base W b v l) (hc : W.heap[c]? = some (.cells cur t2 (0, 0))) (ht : t2 ≠ 33) : v.ownBlock ≠ some c := fun e => by
  obtain ⟨h1, ⟨hn, _⟩ | ⟨g, cap, cu, hv, hg, hh, r⟩⟩ := h.2.2
  · rw [hn] at e; cases e
  · rw [hv] at e
    cases e
    rw [hc] at hh
    simp at hh
    exact ht hh.2
theorem RL.lt {t : TypeId} {base : Nat} {W : World} {b : Nat} {v : Value} {l : List Ru} (h : RL t base W b v l) {g : Nat} (e : v.ownBlock = some g) : base ≤ g ∧ g < W.heap.size := by
  obtain ⟨h1, ⟨hn, _⟩ | ⟨g2, cap, cu, hv, hg, hh, r⟩⟩ := h.2.2
  · rw [hn] at e; cases e
  · rw [hv] at e
    cases e
    exact ⟨hg, (Array.getElem?_eq_some_iff.1 hh).1⟩
theorem RL.blt {t : TypeId} {base : Nat} {W : World} {b : Nat} {v : Value} {l : List Ru} (h : RL t base W b v l) : b < W.heap.size := (Array.getElem?_eq_some_iff.1 h.2.1).1

/-- So many upper bits set. -/
def upm (k : Int) : Int := 4294967296 - 2 ^ (32 - k.toNat)
/-- A number's upper bits. -/
def upp (n k : Int) : Int := n / 2 ^ (32 - k.toNat) * 2 ^ (32 - k.toNat)
theorem nat_and_up (n j : Nat) (hj : j ≤ 32) (hn : n < 4294967296) : n &&& (4294967296 - 2 ^ j) = n / 2 ^ j * 2 ^ j := by
  have e : 4294967296 - 2 ^ j = (2 ^ (32 - j) - 1) <<< j := by
    rw [Nat.shiftLeft_eq, Nat.sub_mul, ← Nat.pow_add, show 32 - j + j = 32 from by omega]
    simp
  have e2 : n / 2 ^ j * 2 ^ j = (n >>> j) <<< j := by rw [Nat.shiftLeft_eq, Nat.shiftRight_eq_div_pow]
  rw [e, e2]
  apply Nat.eq_of_testBit_eq
  intro i
  simp only [Nat.testBit_and, Nat.testBit_shiftLeft, Nat.testBit_shiftRight, Nat.testBit_two_pow_sub_one]
  by_cases h : j ≤ i
  · simp [h]
    intro hb
    by_cases hi : i < 32
    · omega
    · have : n.testBit i = false := Nat.testBit_lt_two_pow (Nat.lt_of_lt_of_le hn (by rw [show 4294967296 = 2 ^ 32 from rfl]; exact Nat.pow_le_pow_right (by omega) (by omega)))
      rw [this] at hb; cases hb
  · simp [h]
theorem upm_bd (k : Int) (h0 : 0 ≤ k) (h1 : k ≤ 32) : 0 ≤ upm k ∧ upm k ≤ 4294967295 := by
  unfold upm
  have h2 : (2 : Nat) ^ (32 - k.toNat) ≤ 2 ^ 32 := Nat.pow_le_pow_right (by omega) (by omega)
  have h3 : 0 < (2 : Nat) ^ (32 - k.toNat) := Nat.pow_pos (by omega)
  have e : ((2 : Int) ^ (32 - k.toNat)) = ((2 ^ (32 - k.toNat) : Nat) : Int) := by simp
  rw [e]
  omega
end Go.Proofs.YtomdccljoaieeaaDoor
