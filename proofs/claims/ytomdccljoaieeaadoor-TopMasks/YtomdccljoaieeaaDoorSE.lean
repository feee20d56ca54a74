/- Package segs: the packet with a datagram. -/
import Derived.Test.YtomdccljoaieeaaDoorSB
import Derived.Test.YtomdccljoaieeaaDoorSC
import Derived.Test.YtomdccljoaieeaaDoorSD
namespace Go.Proofs.YtomdccljoaieeaaDoor
open Go.RowKit Go.Shelf
set_option maxRecDepth 100000
set_option linter.unusedVariables false
set_option linter.unusedSimpArgs false

theorem But.wk {E E' : Nat → Prop} {a b : World} (h : But E a b) (hE : ∀ k, E k → E' k) : But E' a b := ⟨h.os, h.tape, h.output, h.size, fun i hi he => h.block i hi (fun h' => he (hE i h'))⟩

theorem later_new {w V : World} {o : Obj} (h : But (fun b => b = w.heap.size) (w.alloc o) V) : Later w V :=
  ((Below.refl w.heap.size w).alloc (Nat.le_refl _) o).trans (h.below (by simp) (fun k hk e => by omega))

theorem Ow.aside {base mb : Nat} {W W' : World} {v : Value} {zs : List Int} {cur : Array Value} {t : TypeId} (h : Ow base W v zs) (hm : W.heap[mb]? = some (.cells cur t (0, 0))) (ht : t ≠ 5) (hb : But (fun b => b = mb) W W') : Ow base W' v zs := by
  rcases h with h | ⟨g, cap, c, h1, h2, h3, h4, h5, h6, h7⟩
  · exact .inl h
  · refine .inr ⟨g, cap, c, h1, h2, h3, h4, h5, (hb.block g (Array.getElem?_eq_some_iff.1 h6).1 (fun e => ?_)).trans h6, h7⟩
    subst e
    rw [hm] at h6
    simp at h6
    exact ht h6.2


/-- A datagram's bytes, 0 for its check sum; with it. -/
def udp0 (sp dp : Int) (zm : List Int) : List Int := [sp, dp, (8 + (zm.length : Int)) % 65536, 0].flatMap b2 ++ zm
def udp (sp dp : Int) (bare : Bool) (src dst : Int) (zm : List Int) : List Int := if bare then udp0 sp dp zm else Mt.put2 (udp0 sp dp zm) 6 (usm src dst 17 (udp0 sp dp zm))
theorem udp0_length (sp dp : Int) (zm : List Int) : (udp0 sp dp zm).length = 8 + zm.length := by simp [udp0, b2]; omega
theorem udp_length (sp dp : Int) (bare : Bool) (src dst : Int) (zm : List Int) : (udp sp dp bare src dst zm).length = 8 + zm.length := by unfold udp; split <;> simp [Mt.put2_length, udp0_length]
theorem By_udp0 (sp dp : Int) (zm : List Int) (h1 : 0 ≤ sp ∧ sp ≤ 65535) (h2 : 0 ≤ dp ∧ dp ≤ 65535) (hB : Mt.By zm) : Mt.By (udp0 sp dp zm) := by
  unfold udp0
  refine Mt.By.append ?_ hB
  simp only [List.flatMap_cons, List.flatMap_nil, b2]
  exact .mk (by omega) (.mk (by omega) (.mk (by omega) (.mk (by omega) (.mk (by omega) (.mk (by omega) (.mk (by omega) (.mk (by omega) .nil)))))))
theorem By_udp (sp dp : Int) (bare : Bool) (src dst : Int) (zm : List Int) (h1 : 0 ≤ sp ∧ sp ≤ 65535) (h2 : 0 ≤ dp ∧ dp ≤ 65535) (hB : Mt.By zm) : Mt.By (udp sp dp bare src dst zm) := by
  unfold udp
  split
  · exact By_udp0 sp dp zm h1 h2 hB
  · exact (By_udp0 sp dp zm h1 h2 hB).put2 6 (by have := usm_bd src dst 17 (udp0 sp dp zm); omega)

set_option maxHeartbeats 4000000 in
theorem buildUdp_any (tos id ttl proto src dst sp dp : Int) (keep bare : Bool) (so sd sm : Value) (zo zm : List Int) (w : World) (hBo : Mt.By zo) (hIo : Rd w.heap.size w so zo) (hBm : Mt.By zm) (hIm : Rd w.heap.size w sm zm)
    (h1 : zo.length ≤ 140737488355328) (h2 : 20 + zm.length ≤ 140737488355328) (ht : 0 ≤ tos ∧ tos ≤ 255) (hid : 0 ≤ id ∧ id ≤ 65535) (htt : 0 ≤ ttl ∧ ttl ≤ 255) (hsr : 0 ≤ src ∧ src ≤ 4294967295) (hds : 0 ≤ dst ∧ dst ≤ 4294967295)
    (hsp : 0 ≤ sp ∧ sp ≤ 65535) (hdp : 0 ≤ dp ∧ dp ≤ 65535) :
    Calls Tryd.prog 9 #[.agg #[.int .u8 tos, .int .u16 id, .bool keep, .int .u8 ttl, .int .u8 proto, .int .u32 src, .int .u32 dst, so, sd], .agg #[.int .u16 sp, .int .u16 dp, .bool bare, sm]] w fun e w' => Below w.heap.size w w' ∧ ((flt zo.length (8 + zm.length) ≠ 0 ∧ e = .returned (.tuple #[.agg zcc.toArray, .int .i64 (flt zo.length (8 + zm.length))])) ∨
      (flt zo.length (8 + zm.length) = 0 ∧ ∃ ao co ad cd, e = .returned (.tuple #[.agg #[.int .u8 tos, .int .u16 id, .bool keep, .int .u8 ttl, .int .u8 17, .int .u32 src, .int .u32 dst, .slice ao zo.length co, .slice ad (8 + zm.length) cd], .int .i64 0]) ∧ Ow w.heap.size w' (.slice ao zo.length co) zo ∧ Ow w.heap.size w' (.slice ad (8 + zm.length) cd) (udp sp dp bare src dst zm))) := by
  obtain ⟨ao, co, rfl, _, _⟩ := hIo.slice
  obtain ⟨am, cm, rfl, _, _⟩ := hIm.slice
  have hbU : Below w.heap.size w ((((w.alloc (.cells #[.int .u8 tos, .int .u16 id, .bool keep, .int .u8 ttl, .int .u8 proto, .int .u32 src, .int .u32 dst, .slice ao zo.length co, sd] 40)).alloc (.cells #[.int .u16 sp, .int .u16 dp, .bool bare, .slice am zm.length cm] 44)).alloc (.cells zcc.toArray 40)).alloc (.cells #[.slice none 0 0, .int .u8 17] 79)) := ((((Below.refl _ _).alloc (Nat.le_refl _) _).alloc (by simp) _).alloc (by simp <;> omega) _).alloc (by simp <;> omega) _
  have p0 : ((((w.alloc (.cells #[.int .u8 tos, .int .u16 id, .bool keep, .int .u8 ttl, .int .u8 proto, .int .u32 src, .int .u32 dst, .slice ao zo.length co, sd] 40)).alloc (.cells #[.int .u16 sp, .int .u16 dp, .bool bare, .slice am zm.length cm] 44)).alloc (.cells zcc.toArray 40)).alloc (.cells #[.slice none 0 0, .int .u8 17] 79)).heap[w.heap.size]? = some (.cells #[.int .u8 tos, .int .u16 id, .bool keep, .int .u8 ttl, .int .u8 proto, .int .u32 src, .int .u32 dst, .slice ao zo.length co, sd] 40) := (Below.heap_alloc _ _ _ (by simp <;> omega)).trans ((Below.heap_alloc _ _ _ (by simp <;> omega)).trans ((Below.heap_alloc _ _ _ (by simp)).trans (heap_alloc_new w _)))
  have d0 : ((((w.alloc (.cells #[.int .u8 tos, .int .u16 id, .bool keep, .int .u8 ttl, .int .u8 proto, .int .u32 src, .int .u32 dst, .slice ao zo.length co, sd] 40)).alloc (.cells #[.int .u16 sp, .int .u16 dp, .bool bare, .slice am zm.length cm] 44)).alloc (.cells zcc.toArray 40)).alloc (.cells #[.slice none 0 0, .int .u8 17] 79)).heap[w.heap.size + 1]? = some (.cells #[.int .u16 sp, .int .u16 dp, .bool bare, .slice am zm.length cm] 44) := by
    have := heap_alloc_new (w.alloc (.cells #[.int .u8 tos, .int .u16 id, .bool keep, .int .u8 ttl, .int .u8 proto, .int .u32 src, .int .u32 dst, .slice ao zo.length co, sd] 40)) (.cells #[.int .u16 sp, .int .u16 dp, .bool bare, .slice am zm.length cm] 44)
    rw [World.size_alloc] at this
    exact (Below.heap_alloc _ _ _ (by simp <;> omega)).trans ((Below.heap_alloc _ _ _ (by simp)).trans this)
  have r0 : ((((w.alloc (.cells #[.int .u8 tos, .int .u16 id, .bool keep, .int .u8 ttl, .int .u8 proto, .int .u32 src, .int .u32 dst, .slice ao zo.length co, sd] 40)).alloc (.cells #[.int .u16 sp, .int .u16 dp, .bool bare, .slice am zm.length cm] 44)).alloc (.cells zcc.toArray 40)).alloc (.cells #[.slice none 0 0, .int .u8 17] 79)).heap[w.heap.size + 1 + 1]? = some (.cells zcc.toArray 40 (0, 0)) := by
    have := heap_alloc_new ((w.alloc (.cells #[.int .u8 tos, .int .u16 id, .bool keep, .int .u8 ttl, .int .u8 proto, .int .u32 src, .int .u32 dst, .slice ao zo.length co, sd] 40)).alloc (.cells #[.int .u16 sp, .int .u16 dp, .bool bare, .slice am zm.length cm] 44)) (.cells zcc.toArray 40)
    simp only [World.size_alloc] at this
    exact (Below.heap_alloc _ _ _ (by simp)).trans this
  have u0 : ((((w.alloc (.cells #[.int .u8 tos, .int .u16 id, .bool keep, .int .u8 ttl, .int .u8 proto, .int .u32 src, .int .u32 dst, .slice ao zo.length co, sd] 40)).alloc (.cells #[.int .u16 sp, .int .u16 dp, .bool bare, .slice am zm.length cm] 44)).alloc (.cells zcc.toArray 40)).alloc (.cells #[.slice none 0 0, .int .u8 17] 79)).heap[w.heap.size + 1 + 1 + 1]? = some (.cells #[.slice none 0 0, .int .u8 17] 79 (0, 0)) := by
    have := heap_alloc_new (((w.alloc (.cells #[.int .u8 tos, .int .u16 id, .bool keep, .int .u8 ttl, .int .u8 proto, .int .u32 src, .int .u32 dst, .slice ao zo.length co, sd] 40)).alloc (.cells #[.int .u16 sp, .int .u16 dp, .bool bare, .slice am zm.length cm] 44)).alloc (.cells zcc.toArray 40)) (.cells #[.slice none 0 0, .int .u8 17] 79)
    simpa using this
  have hsU : ((((w.alloc (.cells #[.int .u8 tos, .int .u16 id, .bool keep, .int .u8 ttl, .int .u8 proto, .int .u32 src, .int .u32 dst, .slice ao zo.length co, sd] 40)).alloc (.cells #[.int .u16 sp, .int .u16 dp, .bool bare, .slice am zm.length cm] 44)).alloc (.cells zcc.toArray 40)).alloc (.cells #[.slice none 0 0, .int .u8 17] 79)).heap.size = w.heap.size + 1 + 1 + 1 + 1 := by simp
  have PD := block_cell d0
  have D0 := hide d0
  have P0 := hide p0
  have R0 := hide r0
  have U0 := hide u0
  have HSU := hide hsU
  clear p0 d0 r0 u0 hsU
  go_enter Tryd.func9, Tryd.ntmps9
  go_upto_region 2 with fail
  generalize (((w.alloc (.cells #[.int .u8 tos, .int .u16 id, .bool keep, .int .u8 ttl, .int .u8 proto, .int .u32 src, .int .u32 dst, .slice ao zo.length co, sd] 40)).alloc (.cells #[.int .u16 sp, .int .u16 dp, .bool bare, .slice am zm.length cm] 44)).alloc (.cells zcc.toArray 40)).alloc (.cells #[.slice none 0 0, .int .u8 17] 79) = wu at *
  have hH0 : HSt [.int .u8 17] 79 (w.heap.size + 1 + 1 + 1) (fun _ => False) [] wu := ⟨.slice none 0 0, U0.out, World.ownsRow_nil _ _ _ _, fun _ h => by cases h⟩
  have hlu : IntKind.u16.wrap (8 + (zm.length : Int)) = (8 + (zm.length : Int)) % 65536 := IntKind.wrap_u16 _
  have hA : Later wu (wu.alloc (.cells ([sp, dp, (8 + (zm.length : Int)) % 65536, 0].map (Value.int .u16)).toArray 22)) := (Below.refl _ _).alloc (Nat.le_refl _) _
  have hHA := hH0.alloc (.cells ([sp, dp, (8 + (zm.length : Int)) % 65536, 0].map (Value.int .u16)).toArray 22)
  have hkA := heap_alloc_new wu (.cells ([sp, dp, (8 + (zm.length : Int)) % 65536, 0].map (Value.int .u16)).toArray 22)
  go_wp2_with fail
  refine (hput16_any [.int .u8 17] 79 22 (w.heap.size + 1 + 1 + 1) wu.heap.size 4 (fun b => False ∨ b = wu.heap.size) [] [sp, dp, (8 + (zm.length : Int)) % 65536, 0] _ hHA (fun b hb => ⟨by rcases hb with h | h; exact h.elim; subst h; simp, by rcases hb with h | h; exact h.elim; have := HSU.out; omega⟩) (.inr rfl) hkA (by intro n hn; simp at hn; omega) (by simp) (by simp)).mono ?_
  rintro e w1 ⟨rfl, hH1, hE1⟩
  have E1 : But (fun b => w.heap.size + 1 + 1 + 1 ≤ b) wu w1 := (But.of hA).trans (hE1.wk fun b h => h.1)
  have hsu : w.heap.size + 1 + 1 + 1 + 1 = wu.heap.size := HSU.out.symm
  have hw1 : Below w.heap.size w w1 := hbU.trans (E1.below (by omega) (fun k h e => by omega))
  have d1 := (E1.block (w.heap.size + 1) (by omega) (by omega)).trans D0.out
  have p1 := (E1.block w.heap.size (by omega) (by omega)).trans P0.out
  have r1 := (E1.block (w.heap.size + 1 + 1) (by omega) (by omega)).trans R0.out
  have hs1 : wu.heap.size + 1 ≤ w1.heap.size := by have := hE1.size; simp at this; omega
  rw [List.nil_append] at hH1
  clear hHA hkA hA hH0 hE1 PD P0 D0 R0 U0 E1
  have K1 := block_cell d1
  go_wp2_with fail
  refine (put_any [.int .u8 17] 79 (w.heap.size + 1 + 1 + 1) (fun b => False ∨ b = wu.heap.size) _ _ zm w.heap.size _ hH1 (fun b hb => ⟨by rcases hb with h | h; exact h.elim; omega, by rcases hb with h | h; exact h.elim; omega⟩) (hIm.below hw1) (by simp [b2]; omega)).mono ?_
  rintro e w2 ⟨rfl, hH2, hE2⟩
  have E2 : But (fun b => w.heap.size + 1 + 1 + 1 ≤ b) w1 w2 := hE2.wk fun b h => h.1
  have hw2 : Below w.heap.size w w2 := hw1.trans (E2.below (by omega) (fun k h e => by omega))
  have d2 := (E2.block (w.heap.size + 1) (by omega) (by omega)).trans d1
  have p2 := (E2.block w.heap.size (by omega) (by omega)).trans p1
  have r2 := (E2.block (w.heap.size + 1 + 1) (by omega) (by omega)).trans r1
  have hs2 : w1.heap.size ≤ w2.heap.size := E2.size
  have HU : Hid ([sp, dp, (8 + (zm.length : Int)) % 65536, 0].flatMap b2 ++ zm = udp0 sp dp zm) := rfl
  rw [HU.out] at hH2
  clear hH1 K1 d1 p1 r1 E2 hE2 HU
  obtain ⟨v2, u2, hown2, _⟩ := hH2
  have hOu := Ow.of_row hown2
  obtain ⟨av, cv, rfl, _, _⟩ := hOu.slice
  have K2 := block_cell p2
  have hB0 := By_udp0 sp dp zm hsp hdp hBm
  have h28 : (udp0 sp dp zm).length ≤ 140737488355328 := by rw [udp0_length]; omega
  go_wp2_with fail
  refine (upacked_any tos id ttl proto src dst 17 keep _ _ _ zo (udp0 sp dp zm) w2 (w.heap.size + 1 + 1 + 1) _ u2 hBo ((hIo.below hw2).mono hw2.size) hOu.rd h1 h28 ht hid htt (by omega) hsr hds).mono ?_
  rw [udp0_length] at hOu ⊢
  clear K2 u2 hown2 p2
  rintro e w3 ⟨hb3, ⟨hf, rfl⟩ | ⟨hf, ao3, co3, rfl, hO3⟩⟩
  · have hf' : (flt zo.length (8 + zm.length) != 0) = true := by simp [hf]
    have HF := hide hf
    have r3 := (hb3.block (w.heap.size + 1 + 1) (by omega)).trans r2
    have hw3 := hw2.trans (hb3.mono hw2.size)
    clear hf d2 r2
    go_upto_region 6 with fail
    generalize hV : w3.alloc _ = W4
    have W4l : Later w3 W4 := by rw [← hV]; exact (Below.refl _ w3).alloc (Nat.le_refl _) _
    clear hV
    have r4 := (W4l.block (w.heap.size + 1 + 1) (by have := hb3.size; omega)).trans r3
    have hw4 := hw3.trans (W4l.mono hw3.size)
    have K4 := block_cell r4
    have F4 := block_frozen r4
    clear r3 hb3
    go_wp2_with fail
    generalize hV : ((((((((W4.setCell ⟨w.heap.size + 1 + 1, 0, none⟩ _).setCell ⟨w.heap.size + 1 + 1, 1, none⟩ _).setCell ⟨w.heap.size + 1 + 1, 2, none⟩ _).setCell ⟨w.heap.size + 1 + 1, 3, none⟩ _).setCell ⟨w.heap.size + 1 + 1, 4, none⟩ _).setCell ⟨w.heap.size + 1 + 1, 5, none⟩ _).setCell ⟨w.heap.size + 1 + 1, 6, none⟩ _).setCell ⟨w.heap.size + 1 + 1, 7, none⟩ _).setCell ⟨w.heap.size + 1 + 1, 8, none⟩ _ = V8
    have hV9 : V8 = putRow W4 (w.heap.size + 1 + 1) 0 zcc := hV.symm
    have hb8 : But (fun b => b = w.heap.size + 1 + 1) W4 V8 := by rw [hV9]; exact putRow_but (E := fun b => b = w.heap.size + 1 + 1) (n := w.heap.size + 1 + 1) rfl _ _ _ _ (But.refl _ _)
    have p8 := putRow_all zcc r4 rfl
    rw [← hV9] at p8
    clear hV hV9
    have P8 := block_cell p8
    have hw8 : Below w.heap.size w V8 := (hw4).trans (hb8.below (hw4).size (fun k h e => by omega))
    exact bodyPost_ret (v := .tuple #[.agg zcc.toArray, .int .i64 (flt zo.length (8 + zm.length))]) (by simp [results, Tryd.results9, go_sem, P8]) rfl (⟨hw8, .inl ⟨HF.out, rfl⟩⟩)
  · have HF := hide hf
    have r3 := (hb3.block (w.heap.size + 1 + 1) (by omega)).trans r2
    have d3 := (hb3.block (w.heap.size + 1) (by omega)).trans d2
    have hw3 := hw2.trans (hb3.mono hw2.size)
    have hs3 := hb3.size
    have hOu3 := hOu.later hb3
    clear hf d2 r2
    go_upto_region 7 with fail
    generalize hV : w3.alloc _ = W4
    have W4l : Later w3 W4 := by rw [← hV]; exact (Below.refl _ w3).alloc (Nat.le_refl _) _
    have W4q : W4.heap[w3.heap.size]? = some (.cells [.int .u8 tos, .int .u16 id, .bool keep, .int .u8 ttl, .int .u8 17, .int .u32 src, .int .u32 dst, .slice ao3 zo.length co3, .slice av (8 + zm.length) cv].toArray 40 (0, 0)) := by rw [← hV]; exact heap_alloc_new w3 _
    clear hV
    have r4 := (W4l.block (w.heap.size + 1 + 1) (by omega)).trans r3
    have d4 := (W4l.block (w.heap.size + 1) (by omega)).trans d3
    have hw4 := hw3.trans (W4l.mono hw3.size)
    have hO4 := hO3.later W4l
    have hOu4 := hOu3.later W4l
    have K4 := block_cell d4
    clear d3 r3 hO3 hOu3
    have HUd : Hid (udp sp dp bare src dst zm = if bare then udp0 sp dp zm else Mt.put2 (udp0 sp dp zm) 6 (usm src dst 17 (udp0 sp dp zm))) := rfl
    cases bare with
    | true =>
      have Q4 := block_cell W4q
      have F4 := block_frozen r4
      have R4 := block_cell r4
      go_wp2_with fail
      generalize hV : ((((((((W4.setCell ⟨w.heap.size + 1 + 1, 0, none⟩ _).setCell ⟨w.heap.size + 1 + 1, 1, none⟩ _).setCell ⟨w.heap.size + 1 + 1, 2, none⟩ _).setCell ⟨w.heap.size + 1 + 1, 3, none⟩ _).setCell ⟨w.heap.size + 1 + 1, 4, none⟩ _).setCell ⟨w.heap.size + 1 + 1, 5, none⟩ _).setCell ⟨w.heap.size + 1 + 1, 6, none⟩ _).setCell ⟨w.heap.size + 1 + 1, 7, none⟩ _).setCell ⟨w.heap.size + 1 + 1, 8, none⟩ _ = V8
      have hV9 : V8 = putRow W4 (w.heap.size + 1 + 1) 0 [.int .u8 tos, .int .u16 id, .bool keep, .int .u8 ttl, .int .u8 17, .int .u32 src, .int .u32 dst, .slice ao3 zo.length co3, .slice av (8 + zm.length) cv] := hV.symm
      have hb8 : But (fun b => b = w.heap.size + 1 + 1) W4 V8 := by rw [hV9]; exact putRow_but (E := fun b => b = w.heap.size + 1 + 1) (n := w.heap.size + 1 + 1) rfl _ _ _ _ (But.refl _ _)
      have p8 := putRow_all [.int .u8 tos, .int .u16 id, .bool keep, .int .u8 ttl, .int .u8 17, .int .u32 src, .int .u32 dst, .slice ao3 zo.length co3, .slice av (8 + zm.length) cv] r4 rfl
      rw [← hV9] at p8
      clear hV hV9
      have P8 := block_cell p8
      have hw8 : Below w.heap.size w V8 := (hw4).trans (hb8.below (hw4).size (fun k h e => by omega))
      exact bodyPost_ret (v := .tuple #[.agg [.int .u8 tos, .int .u16 id, .bool keep, .int .u8 ttl, .int .u8 17, .int .u32 src, .int .u32 dst, .slice ao3 zo.length co3, .slice av (8 + zm.length) cv].toArray, .int .i64 0]) (by simp [results, Tryd.results9, go_sem, P8]) rfl (⟨hw8, .inr ⟨HF.out, _, _, _, _, rfl, (hO4.but hb8 (fun b h e => by omega)).mono hw2.size, by rw [HUd.out]; exact (hOu4.but hb8 (fun b h e => by omega)).mono (by omega)⟩⟩)
    | false =>
      go_upto_region 8 with fail
      refine anyT_begin (R := But (fun b => b = w3.heap.size)) 7 rfl (by kernel_rfl) ?_
      have hd : Later W4 W4.drew := Later.drew W4
      have q5 := (hd.block w3.heap.size (Array.getElem?_eq_some_iff.1 W4q).1).trans W4q
      have r5 := (hd.block (w.heap.size + 1 + 1) (Array.getElem?_eq_some_iff.1 r4).1).trans r4
      have hw5 := hw4.trans (hd.mono hw4.size)
      have hO5 := hO4.later hd
      have hOu5 := hOu4.later hd
      clear W4q r4 hO4 hOu4 K4 d4
      generalize W4.drew = W5 at *
      have Q5 := block_cell q5
      refine anyT_val (But.pre _) 0 rfl (by kernel_rfl) (by kernel_rfl) (by kernel_rfl) (fun _ _ _ _ h => h) rfl ?_; apply Exists.intro; refine ⟨fun v1 hv1 => ?_, ?_⟩; (· (go_simp; rfl)); simp only [Act.put, List.setIfInBounds_toArray, List.set_cons_zero, List.set_cons_succ]
      refine anyT_two 1 2 rfl rfl (by kernel_rfl) rfl rfl ?_ ?_
      · unfold Oper.wp
        go_simp
        refine ⟨But.refl _ _, ?_⟩
        refine anyT_one 2 rfl (by kernel_rfl) rfl ?_
        unfold Oper.wp
        go_simp
        refine ⟨But.refl _ _, ?_⟩
        refine anyT_one 3 rfl (by kernel_rfl) rfl ?_
        refine wp_enter 30 #[.agg #[.int .u8 tos, .int .u16 id, .bool keep, .int .u8 ttl, .int .u8 17, .int .u32 src, .int .u32 dst, .slice ao3 zo.length co3, .slice av (8 + zm.length) cv]] (by go_simp) ?_
        refine (udpSum_any tos id ttl 17 src dst keep _ _ (udp0 sp dp zm) W5 hB0 hOu5.rd (by rw [udp0_length]; omega) (by omega) hsr hds).mono ?_
        rintro e W6 ⟨rfl, hb6⟩
        refine ⟨But.of hb6, ?_⟩
        simp only [Act.put, List.setIfInBounds_toArray, List.set_cons_zero, List.set_cons_succ]
        have hO6 := hO5.later hb6
        have hOu6 := hOu5.later hb6
        have r6 := (hb6.block (w.heap.size + 1 + 1) (Array.getElem?_eq_some_iff.1 r5).1).trans r5
        have q6 := (hb6.block w3.heap.size (Array.getElem?_eq_some_iff.1 q5).1).trans q5
        have hw6 := hw5.trans (hb6.mono hw5.size)
        have hq5 := (Array.getElem?_eq_some_iff.1 q5).1
        have hub := usm_bd src dst 17 (udp0 sp dp zm)
        refine anyT_one 4 rfl (by kernel_rfl) rfl ?_
        refine wp_enter 29 #[.slice av (8 + zm.length) cv, .int .i64 6, .int .u16 (usm src dst 17 (udp0 sp dp zm))] (by go_simp) ?_
        refine (put16_any _ (udp0 sp dp zm) 6 (usm src dst 17 (udp0 sp dp zm)) W6 h28 hOu6.rd (by omega)).mono ?_
        rintro e W7 ⟨a6, rfl, hO7, hb7⟩
        rw [putAt2_lit _ 6 6 _ rfl (by rw [udp0_length]; omega), udp0_length] at hO7
        rw [udp0_length]
        refine ⟨But.of hb7, ?_⟩
        simp only [Act.put, List.setIfInBounds_toArray, List.set_cons_zero, List.set_cons_succ]
        have r7 := (hb7.block (w.heap.size + 1 + 1) (Array.getElem?_eq_some_iff.1 r6).1).trans r6
        have q7 := (hb7.block w3.heap.size (Array.getElem?_eq_some_iff.1 q6).1).trans q6
        have hw7 := hw6.trans (hb7.mono hw6.size)
        have hOo := hO6.later hb7
        have hs6 := hb6.size
        have hs7 := hb7.size
        clear hOu5 hO5 hOu6 hO6 r6 q6 r5 q5 Q5
        refine anyT_one 5 rfl (by kernel_rfl) rfl ?_
        unfold Oper.wp
        go_simp
        refine ⟨But.refl _ _, ?_⟩
        have Q7 := block_cell q7
        have F7 := block_frozen q7
        refine anyT_one 6 rfl (by kernel_rfl) rfl ?_
        unfold Oper.wp
        go_simp
        refine ⟨(But.refl (fun b => b = w3.heap.size) W7).setCell (p := ⟨w3.heap.size, 8, none⟩) rfl _, ?_⟩
        clear Q7 F7
        refine anyT_done (by kernel_rfl) ?_
        have E8 : But (fun b => b = w3.heap.size) W7 (W7.setCell ⟨w3.heap.size, 8, none⟩ (.slice a6 (8 + zm.length) (8 + zm.length))) := (But.refl (fun b => b = w3.heap.size) W7).setCell (p := ⟨w3.heap.size, 8, none⟩) rfl _
        have q8 : (W7.setCell ⟨w3.heap.size, 8, none⟩ (.slice a6 (8 + zm.length) (8 + zm.length))).heap[w3.heap.size]? = some (.cells [.int .u8 tos, .int .u16 id, .bool keep, .int .u8 ttl, .int .u8 17, .int .u32 src, .int .u32 dst, .slice ao3 zo.length co3, .slice a6 (8 + zm.length) (8 + zm.length)].toArray 40 (0, 0)) := heap_set1 q7 8 _
        generalize W7.setCell ⟨w3.heap.size, 8, none⟩ (.slice a6 (8 + zm.length) (8 + zm.length)) = W8 at *
        have r8 := (E8.block (w.heap.size + 1 + 1) (by omega) (by omega)).trans r7
        have hwL : Below w.heap.size w W8 := hw7.trans (E8.below (by omega) (fun k h e => by omega))
        have hO8 := hOo.aside q7 (by decide) E8
        have hOd := hO7.aside q7 (by decide) E8
        have Q8 := block_cell q8
        have R8 := block_cell r8
        have F8 := block_frozen r8
        go_wp2_with fail
        generalize hV : ((((((((W8.setCell ⟨w.heap.size + 1 + 1, 0, none⟩ _).setCell ⟨w.heap.size + 1 + 1, 1, none⟩ _).setCell ⟨w.heap.size + 1 + 1, 2, none⟩ _).setCell ⟨w.heap.size + 1 + 1, 3, none⟩ _).setCell ⟨w.heap.size + 1 + 1, 4, none⟩ _).setCell ⟨w.heap.size + 1 + 1, 5, none⟩ _).setCell ⟨w.heap.size + 1 + 1, 6, none⟩ _).setCell ⟨w.heap.size + 1 + 1, 7, none⟩ _).setCell ⟨w.heap.size + 1 + 1, 8, none⟩ _ = V8
        have hV9 : V8 = putRow W8 (w.heap.size + 1 + 1) 0 [.int .u8 tos, .int .u16 id, .bool keep, .int .u8 ttl, .int .u8 17, .int .u32 src, .int .u32 dst, .slice ao3 zo.length co3, .slice a6 (8 + zm.length) (8 + zm.length)] := hV.symm
        have hb8 : But (fun b => b = w.heap.size + 1 + 1) W8 V8 := by rw [hV9]; exact putRow_but (E := fun b => b = w.heap.size + 1 + 1) (n := w.heap.size + 1 + 1) rfl _ _ _ _ (But.refl _ _)
        have p8 := putRow_all [.int .u8 tos, .int .u16 id, .bool keep, .int .u8 ttl, .int .u8 17, .int .u32 src, .int .u32 dst, .slice ao3 zo.length co3, .slice a6 (8 + zm.length) (8 + zm.length)] r8 rfl
        rw [← hV9] at p8
        clear hV hV9
        have P8 := block_cell p8
        have hw8 : Below w.heap.size w V8 := (hwL).trans (hb8.below (hwL).size (fun k h e => by omega))
        exact bodyPost_ret (v := .tuple #[.agg #[.int .u8 tos, .int .u16 id, .bool keep, .int .u8 ttl, .int .u8 17, .int .u32 src, .int .u32 dst, .slice ao3 zo.length co3, .slice a6 (8 + zm.length) (8 + zm.length)], .int .i64 0]) (by simp [results, Tryd.results9, go_sem, P8]) rfl (⟨hw8, .inr ⟨HF.out, _, _, _, _, rfl, (hO8.but hb8 (fun b h e => by omega)).mono hw2.size, by rw [HUd.out]; exact (hOd.but hb8 (fun b h e => by omega)).mono (by omega)⟩⟩)
      · unfold Oper.wp
        go_simp
        refine ⟨But.refl _ _, ?_⟩
        refine anyT_two 1 3 rfl rfl (by kernel_rfl) rfl rfl ?_ ?_
        · unfold Oper.wp
          go_simp
          refine ⟨But.refl _ _, ?_⟩
          refine anyT_one 3 rfl (by kernel_rfl) rfl ?_
          refine wp_enter 30 #[.agg #[.int .u8 tos, .int .u16 id, .bool keep, .int .u8 ttl, .int .u8 17, .int .u32 src, .int .u32 dst, .slice ao3 zo.length co3, .slice av (8 + zm.length) cv]] (by go_simp) ?_
          refine (udpSum_any tos id ttl 17 src dst keep _ _ (udp0 sp dp zm) W5 hB0 hOu5.rd (by rw [udp0_length]; omega) (by omega) hsr hds).mono ?_
          rintro e W6 ⟨rfl, hb6⟩
          refine ⟨But.of hb6, ?_⟩
          simp only [Act.put, List.setIfInBounds_toArray, List.set_cons_zero, List.set_cons_succ]
          have hO6 := hO5.later hb6
          have hOu6 := hOu5.later hb6
          have r6 := (hb6.block (w.heap.size + 1 + 1) (Array.getElem?_eq_some_iff.1 r5).1).trans r5
          have q6 := (hb6.block w3.heap.size (Array.getElem?_eq_some_iff.1 q5).1).trans q5
          have hw6 := hw5.trans (hb6.mono hw5.size)
          have hq5 := (Array.getElem?_eq_some_iff.1 q5).1
          have hub := usm_bd src dst 17 (udp0 sp dp zm)
          refine anyT_one 4 rfl (by kernel_rfl) rfl ?_
          refine wp_enter 29 #[.slice av (8 + zm.length) cv, .int .i64 6, .int .u16 (usm src dst 17 (udp0 sp dp zm))] (by go_simp) ?_
          refine (put16_any _ (udp0 sp dp zm) 6 (usm src dst 17 (udp0 sp dp zm)) W6 h28 hOu6.rd (by omega)).mono ?_
          rintro e W7 ⟨a6, rfl, hO7, hb7⟩
          rw [putAt2_lit _ 6 6 _ rfl (by rw [udp0_length]; omega), udp0_length] at hO7
          rw [udp0_length]
          refine ⟨But.of hb7, ?_⟩
          simp only [Act.put, List.setIfInBounds_toArray, List.set_cons_zero, List.set_cons_succ]
          have r7 := (hb7.block (w.heap.size + 1 + 1) (Array.getElem?_eq_some_iff.1 r6).1).trans r6
          have q7 := (hb7.block w3.heap.size (Array.getElem?_eq_some_iff.1 q6).1).trans q6
          have hw7 := hw6.trans (hb7.mono hw6.size)
          have hOo := hO6.later hb7
          have hs6 := hb6.size
          have hs7 := hb7.size
          clear hOu5 hO5 hOu6 hO6 r6 q6 r5 q5 Q5
          refine anyT_one 5 rfl (by kernel_rfl) rfl ?_
          unfold Oper.wp
          go_simp
          refine ⟨But.refl _ _, ?_⟩
          have Q7 := block_cell q7
          have F7 := block_frozen q7
          refine anyT_one 6 rfl (by kernel_rfl) rfl ?_
          unfold Oper.wp
          go_simp
          refine ⟨(But.refl (fun b => b = w3.heap.size) W7).setCell (p := ⟨w3.heap.size, 8, none⟩) rfl _, ?_⟩
          clear Q7 F7
          refine anyT_done (by kernel_rfl) ?_
          have E8 : But (fun b => b = w3.heap.size) W7 (W7.setCell ⟨w3.heap.size, 8, none⟩ (.slice a6 (8 + zm.length) (8 + zm.length))) := (But.refl (fun b => b = w3.heap.size) W7).setCell (p := ⟨w3.heap.size, 8, none⟩) rfl _
          have q8 : (W7.setCell ⟨w3.heap.size, 8, none⟩ (.slice a6 (8 + zm.length) (8 + zm.length))).heap[w3.heap.size]? = some (.cells [.int .u8 tos, .int .u16 id, .bool keep, .int .u8 ttl, .int .u8 17, .int .u32 src, .int .u32 dst, .slice ao3 zo.length co3, .slice a6 (8 + zm.length) (8 + zm.length)].toArray 40 (0, 0)) := heap_set1 q7 8 _
          generalize W7.setCell ⟨w3.heap.size, 8, none⟩ (.slice a6 (8 + zm.length) (8 + zm.length)) = W8 at *
          have r8 := (E8.block (w.heap.size + 1 + 1) (by omega) (by omega)).trans r7
          have hwL : Below w.heap.size w W8 := hw7.trans (E8.below (by omega) (fun k h e => by omega))
          have hO8 := hOo.aside q7 (by decide) E8
          have hOd := hO7.aside q7 (by decide) E8
          have Q8 := block_cell q8
          have R8 := block_cell r8
          have F8 := block_frozen r8
          go_wp2_with fail
          generalize hV : ((((((((W8.setCell ⟨w.heap.size + 1 + 1, 0, none⟩ _).setCell ⟨w.heap.size + 1 + 1, 1, none⟩ _).setCell ⟨w.heap.size + 1 + 1, 2, none⟩ _).setCell ⟨w.heap.size + 1 + 1, 3, none⟩ _).setCell ⟨w.heap.size + 1 + 1, 4, none⟩ _).setCell ⟨w.heap.size + 1 + 1, 5, none⟩ _).setCell ⟨w.heap.size + 1 + 1, 6, none⟩ _).setCell ⟨w.heap.size + 1 + 1, 7, none⟩ _).setCell ⟨w.heap.size + 1 + 1, 8, none⟩ _ = V8
          have hV9 : V8 = putRow W8 (w.heap.size + 1 + 1) 0 [.int .u8 tos, .int .u16 id, .bool keep, .int .u8 ttl, .int .u8 17, .int .u32 src, .int .u32 dst, .slice ao3 zo.length co3, .slice a6 (8 + zm.length) (8 + zm.length)] := hV.symm
          have hb8 : But (fun b => b = w.heap.size + 1 + 1) W8 V8 := by rw [hV9]; exact putRow_but (E := fun b => b = w.heap.size + 1 + 1) (n := w.heap.size + 1 + 1) rfl _ _ _ _ (But.refl _ _)
          have p8 := putRow_all [.int .u8 tos, .int .u16 id, .bool keep, .int .u8 ttl, .int .u8 17, .int .u32 src, .int .u32 dst, .slice ao3 zo.length co3, .slice a6 (8 + zm.length) (8 + zm.length)] r8 rfl
          rw [← hV9] at p8
          clear hV hV9
          have P8 := block_cell p8
          have hw8 : Below w.heap.size w V8 := (hwL).trans (hb8.below (hwL).size (fun k h e => by omega))
          exact bodyPost_ret (v := .tuple #[.agg #[.int .u8 tos, .int .u16 id, .bool keep, .int .u8 ttl, .int .u8 17, .int .u32 src, .int .u32 dst, .slice ao3 zo.length co3, .slice a6 (8 + zm.length) (8 + zm.length)], .int .i64 0]) (by simp [results, Tryd.results9, go_sem, P8]) rfl (⟨hw8, .inr ⟨HF.out, _, _, _, _, rfl, (hO8.but hb8 (fun b h e => by omega)).mono hw2.size, by rw [HUd.out]; exact (hOd.but hb8 (fun b h e => by omega)).mono (by omega)⟩⟩)
        · refine wp_enter 30 #[.agg #[.int .u8 tos, .int .u16 id, .bool keep, .int .u8 ttl, .int .u8 17, .int .u32 src, .int .u32 dst, .slice ao3 zo.length co3, .slice av (8 + zm.length) cv]] (by go_simp) ?_
          refine (udpSum_any tos id ttl 17 src dst keep _ _ (udp0 sp dp zm) W5 hB0 hOu5.rd (by rw [udp0_length]; omega) (by omega) hsr hds).mono ?_
          rintro e W6 ⟨rfl, hb6⟩
          refine ⟨But.of hb6, ?_⟩
          simp only [Act.put, List.setIfInBounds_toArray, List.set_cons_zero, List.set_cons_succ]
          have Q6 := block_cell ((hb6.block w3.heap.size (Array.getElem?_eq_some_iff.1 q5).1).trans q5)
          refine anyT_one 1 rfl (by kernel_rfl) rfl ?_
          unfold Oper.wp
          go_simp
          refine ⟨But.refl _ _, ?_⟩
          clear Q6
          have hO6 := hO5.later hb6
          have hOu6 := hOu5.later hb6
          have r6 := (hb6.block (w.heap.size + 1 + 1) (Array.getElem?_eq_some_iff.1 r5).1).trans r5
          have q6 := (hb6.block w3.heap.size (Array.getElem?_eq_some_iff.1 q5).1).trans q5
          have hw6 := hw5.trans (hb6.mono hw5.size)
          have hq5 := (Array.getElem?_eq_some_iff.1 q5).1
          have hub := usm_bd src dst 17 (udp0 sp dp zm)
          refine anyT_one 4 rfl (by kernel_rfl) rfl ?_
          refine wp_enter 29 #[.slice av (8 + zm.length) cv, .int .i64 6, .int .u16 (usm src dst 17 (udp0 sp dp zm))] (by go_simp) ?_
          refine (put16_any _ (udp0 sp dp zm) 6 (usm src dst 17 (udp0 sp dp zm)) W6 h28 hOu6.rd (by omega)).mono ?_
          rintro e W7 ⟨a6, rfl, hO7, hb7⟩
          rw [putAt2_lit _ 6 6 _ rfl (by rw [udp0_length]; omega), udp0_length] at hO7
          rw [udp0_length]
          refine ⟨But.of hb7, ?_⟩
          simp only [Act.put, List.setIfInBounds_toArray, List.set_cons_zero, List.set_cons_succ]
          have r7 := (hb7.block (w.heap.size + 1 + 1) (Array.getElem?_eq_some_iff.1 r6).1).trans r6
          have q7 := (hb7.block w3.heap.size (Array.getElem?_eq_some_iff.1 q6).1).trans q6
          have hw7 := hw6.trans (hb7.mono hw6.size)
          have hOo := hO6.later hb7
          have hs6 := hb6.size
          have hs7 := hb7.size
          clear hOu5 hO5 hOu6 hO6 r6 q6 r5 q5 Q5
          refine anyT_one 5 rfl (by kernel_rfl) rfl ?_
          unfold Oper.wp
          go_simp
          refine ⟨But.refl _ _, ?_⟩
          have Q7 := block_cell q7
          have F7 := block_frozen q7
          refine anyT_one 6 rfl (by kernel_rfl) rfl ?_
          unfold Oper.wp
          go_simp
          refine ⟨(But.refl (fun b => b = w3.heap.size) W7).setCell (p := ⟨w3.heap.size, 8, none⟩) rfl _, ?_⟩
          clear Q7 F7
          refine anyT_done (by kernel_rfl) ?_
          have E8 : But (fun b => b = w3.heap.size) W7 (W7.setCell ⟨w3.heap.size, 8, none⟩ (.slice a6 (8 + zm.length) (8 + zm.length))) := (But.refl (fun b => b = w3.heap.size) W7).setCell (p := ⟨w3.heap.size, 8, none⟩) rfl _
          have q8 : (W7.setCell ⟨w3.heap.size, 8, none⟩ (.slice a6 (8 + zm.length) (8 + zm.length))).heap[w3.heap.size]? = some (.cells [.int .u8 tos, .int .u16 id, .bool keep, .int .u8 ttl, .int .u8 17, .int .u32 src, .int .u32 dst, .slice ao3 zo.length co3, .slice a6 (8 + zm.length) (8 + zm.length)].toArray 40 (0, 0)) := heap_set1 q7 8 _
          generalize W7.setCell ⟨w3.heap.size, 8, none⟩ (.slice a6 (8 + zm.length) (8 + zm.length)) = W8 at *
          have r8 := (E8.block (w.heap.size + 1 + 1) (by omega) (by omega)).trans r7
          have hwL : Below w.heap.size w W8 := hw7.trans (E8.below (by omega) (fun k h e => by omega))
          have hO8 := hOo.aside q7 (by decide) E8
          have hOd := hO7.aside q7 (by decide) E8
          have Q8 := block_cell q8
          have R8 := block_cell r8
          have F8 := block_frozen r8
          go_wp2_with fail
          generalize hV : ((((((((W8.setCell ⟨w.heap.size + 1 + 1, 0, none⟩ _).setCell ⟨w.heap.size + 1 + 1, 1, none⟩ _).setCell ⟨w.heap.size + 1 + 1, 2, none⟩ _).setCell ⟨w.heap.size + 1 + 1, 3, none⟩ _).setCell ⟨w.heap.size + 1 + 1, 4, none⟩ _).setCell ⟨w.heap.size + 1 + 1, 5, none⟩ _).setCell ⟨w.heap.size + 1 + 1, 6, none⟩ _).setCell ⟨w.heap.size + 1 + 1, 7, none⟩ _).setCell ⟨w.heap.size + 1 + 1, 8, none⟩ _ = V8
          have hV9 : V8 = putRow W8 (w.heap.size + 1 + 1) 0 [.int .u8 tos, .int .u16 id, .bool keep, .int .u8 ttl, .int .u8 17, .int .u32 src, .int .u32 dst, .slice ao3 zo.length co3, .slice a6 (8 + zm.length) (8 + zm.length)] := hV.symm
          have hb8 : But (fun b => b = w.heap.size + 1 + 1) W8 V8 := by rw [hV9]; exact putRow_but (E := fun b => b = w.heap.size + 1 + 1) (n := w.heap.size + 1 + 1) rfl _ _ _ _ (But.refl _ _)
          have p8 := putRow_all [.int .u8 tos, .int .u16 id, .bool keep, .int .u8 ttl, .int .u8 17, .int .u32 src, .int .u32 dst, .slice ao3 zo.length co3, .slice a6 (8 + zm.length) (8 + zm.length)] r8 rfl
          rw [← hV9] at p8
          clear hV hV9
          have P8 := block_cell p8
          have hw8 : Below w.heap.size w V8 := (hwL).trans (hb8.below (hwL).size (fun k h e => by omega))
          exact bodyPost_ret (v := .tuple #[.agg #[.int .u8 tos, .int .u16 id, .bool keep, .int .u8 ttl, .int .u8 17, .int .u32 src, .int .u32 dst, .slice ao3 zo.length co3, .slice a6 (8 + zm.length) (8 + zm.length)], .int .i64 0]) (by simp [results, Tryd.results9, go_sem, P8]) rfl (⟨hw8, .inr ⟨HF.out, _, _, _, _, rfl, (hO8.but hb8 (fun b h e => by omega)).mono hw2.size, by rw [HUd.out]; exact (hOd.but hb8 (fun b h e => by omega)).mono (by omega)⟩⟩)
end Go.Proofs.YtomdccljoaieeaaDoor
