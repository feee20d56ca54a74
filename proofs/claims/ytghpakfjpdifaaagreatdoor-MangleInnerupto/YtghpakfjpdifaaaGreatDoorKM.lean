/- Layer 5: the map of readers; what it holds; ofUdp, told. -/
import Derived.MapKept
import Derived.Test.YtghpakfjpdifaaaGreatDoorKK
import Derived.Test.YtghpakfjpdifaaaGreatDoorSF
namespace Go.Proofs.YtghpakfjpdifaaaGreatDoor
open Go.RowKit Go.Shelf
set_option maxRecDepth 100000
set_option linter.unusedVariables false
set_option linter.unusedSimpArgs false

theorem run_insq {P : Program} {q : IntKind} {t kt et : TypeId} (ht : P.underlying t = some (.map kt et)) (hk : P.underlying kt = some (.int q)) {w : World} {b : Nat} {es : Array MapEntry} {c : Nat} (hb : w.heap[b]? = some (.map es c)) (z : Int) (v : Value) (hf : Instr.findNow (.int q) (.int q z) es.toList 0 = some none) :
  ∃ w', (Instr.mapUpdate t (.map (some b)) (.int q z) v).run P w = .ok () w' ∧ w'.heap[b]? = some (.map (es.push ⟨.int q z, v, c⟩) (c + 1)) ∧ ∀ n, n ≤ b → Below n w w' := by
 have hc : (Instr.checkKey false 10000 kt (.int q z)).run P w = .ok () w := MapKept.run_checkKey (k := .int q z) hk (by simp [MapKept.IsKey]) false 9999
 have hlt := (bl9 hb)
 refine ⟨{ w with heap := w.heap.setIfInBounds b (.map (es.push ⟨.int q z, v, c⟩) (c + 1)) }, ?_, ?_, fun n hn => ⟨rfl, rfl, rfl, by simp, fun i hi => ?_⟩⟩
 ·simp [Instr.mapUpdate, run_underlying ht, MapKept.run_getObj_map hb, hc, MapKept.run_findKey hk hf, MapKept.run_setObj_map _ hb, Result.andThen]
 ·simp [hlt]
 ·rw [Array.getElem?_setIfInBounds_ne (by omega)]

theorem run_findq {P : Program} {q : IntKind} {t kt et : TypeId} (ht : P.underlying t = some (.map kt et)) (hk : P.underlying kt = some (.int q)) {w : World} {b : Nat} {es : Array MapEntry} {c : Nat} (hb : w.heap[b]? = some (.map es c)) (z : Int) (v : Value) (ok : Bool)
  (hf : ((∃ j, Instr.findNow (.int q) (.int q z) es.toList 0 = some (some (j, v))) ∧ ok = true ∨ (Instr.findNow (.int q) (.int q z) es.toList 0 = some none ∧ (zeroValue et).run P w = .ok v w ∧ ok = false))) : (Instr.lookup t (.map (some b)) (.int q z) true).run P w = .ok (.tuple #[v, .bool ok]) w := by
 have hc : (Instr.checkKey es.isEmpty 10000 kt (.int q z)).run P w = .ok () w := MapKept.run_checkKey (k := .int q z) hk (by simp [MapKept.IsKey]) _ 9999
 rcases hf with ⟨⟨j, hf⟩, rfl⟩ | ⟨hf, hz, rfl⟩
 ·simp [Instr.lookup, run_underlying ht, MapKept.run_getObj_map hb, hc, MapKept.run_findKey hk hf, Result.andThen]
 ·simp [Instr.lookup, run_underlying ht, MapKept.run_getObj_map hb, hc, MapKept.run_findKey hk hf, hz, Result.andThen]

def rdE : Array MapEntry := #[⟨.int .u8 6, .agg #[.func (.func 76) #[] #[], .func (.func 77) #[] #[]], 0⟩, ⟨.int .u8 17, .agg #[.func (.func 78) #[] #[], .func (.func 77) #[] #[]], 1⟩, ⟨.int .u8 1, .agg #[.func (.func 79) #[] #[], .func (.func 80) #[] #[]], 2⟩, ⟨.int .u8 47, .agg #[.func (.func 81) #[] #[], .func (.func 82) #[] #[]], 3⟩]

set_option maxHeartbeats 1000000 in
theorem readers_any (w : World) : Calls Tryz.prog 46 #[] w fun e w' => ∃ b, e = .returned (.map (some b)) ∧ Below w.heap.size w w' ∧ w'.heap[b]? = some (.map rdE 4) := by
 have hmm := @run_makeMap Tryz.prog
 have hb0 : Below w.heap.size w (w.alloc (.map #[] 0)) := (Below.refl _ _).alloc (Nat.le_refl _) _
 have hM0 := heap_alloc_new w (.map #[] 0)
 obtain ⟨w1, r1, m1, l1⟩ := run_insq (P := Tryz.prog) Tryz.underlying88 Tryz.underlying5 hM0 6 (.agg #[.func (.func 76) #[] #[], .func (.func 77) #[] #[]]) (by kernel_rfl)
 obtain ⟨w2, r2, m2, l2⟩ := run_insq (P := Tryz.prog) Tryz.underlying88 Tryz.underlying5 m1 17 (.agg #[.func (.func 78) #[] #[], .func (.func 77) #[] #[]]) (by kernel_rfl)
 obtain ⟨w3, r3, m3, l3⟩ := run_insq (P := Tryz.prog) Tryz.underlying88 Tryz.underlying5 m2 1 (.agg #[.func (.func 79) #[] #[], .func (.func 80) #[] #[]]) (by kernel_rfl)
 obtain ⟨w4, r4, m4, l4⟩ := run_insq (P := Tryz.prog) Tryz.underlying88 Tryz.underlying5 m3 47 (.agg #[.func (.func 81) #[] #[], .func (.func 82) #[] #[]]) (by kernel_rfl)
 have hb4 : Below w.heap.size w w4 := (((hb0.trans (l1 _ (Nat.le_refl _))).trans (l2 _ (Nat.le_refl _))).trans (l3 _ (Nat.le_refl _))).trans (l4 _ (Nat.le_refl _))
 clear m1 m2 m3 l1 l2 l3 l4 hM0 hb0
 have M4 := hide m4
 clear m4
 go_enter Tryz.func46, Tryz.ntmps46
 go_wp2_with fail
 go_ret
 exact ⟨_, rfl, hb4, M4.out⟩

theorem look_udp {w : World} {b : Nat} (hb : w.heap[b]? = some (.map rdE 4)) : (Instr.lookup 88 (.map (some b)) (.int .u8 17) true).run Tryz.prog w = .ok (.tuple #[.agg #[.func (.func 78) #[] #[], .func (.func 77) #[] #[]], .bool true]) w :=
 run_findq Tryz.underlying88 Tryz.underlying5 hb 17 _ true (.inl ⟨⟨1, by kernel_rfl⟩, rfl⟩)

theorem look_tcp {w : World} {b : Nat} (hb : w.heap[b]? = some (.map rdE 4)) : (Instr.lookup 88 (.map (some b)) (.int .u8 6) true).run Tryz.prog w = .ok (.tuple #[.agg #[.func (.func 76) #[] #[], .func (.func 77) #[] #[]], .bool true]) w :=
 run_findq Tryz.underlying88 Tryz.underlying5 hb 6 _ true (.inl ⟨⟨0, by kernel_rfl⟩, rfl⟩)

theorem look_icmp {w : World} {b : Nat} (hb : w.heap[b]? = some (.map rdE 4)) : (Instr.lookup 88 (.map (some b)) (.int .u8 1) true).run Tryz.prog w = .ok (.tuple #[.agg #[.func (.func 79) #[] #[], .func (.func 80) #[] #[]], .bool true]) w :=
 run_findq Tryz.underlying88 Tryz.underlying5 hb 1 _ true (.inl ⟨⟨2, by kernel_rfl⟩, rfl⟩)

theorem look_gre {w : World} {b : Nat} (hb : w.heap[b]? = some (.map rdE 4)) : (Instr.lookup 88 (.map (some b)) (.int .u8 47) true).run Tryz.prog w = .ok (.tuple #[.agg #[.func (.func 81) #[] #[], .func (.func 82) #[] #[]], .bool true]) w :=
 run_findq Tryz.underlying88 Tryz.underlying5 hb 47 _ true (.inl ⟨⟨3, by kernel_rfl⟩, rfl⟩)

set_option maxHeartbeats 1000000 in
theorem told_any (tos id ttl proto src dst a b e0 : Int) (keep : Bool) (so sd : Value) (w : World) : Calls Tryz.prog 47 #[.agg #[.int .u8 tos, .int .u16 id, .bool keep, .int .u8 ttl, .int .u8 proto, .int .u32 src, .int .u32 dst, so, sd], .agg #[.int .u16 a, .int .u16 b], .int .i64 e0] w fun e w' => Below w.heap.size w w' ∧ ((e0 ≠ 0 ∧ e = .returned (.tuple #[.agg #[.int .u8 0, .int .u32 0, .int .u32 0, .int .u16 0, .int .u16 0], .int .i64 e0])) ∨ (e0 = 0 ∧ e = .returned (.tuple #[.agg #[.int .u8 proto, .int .u32 src, .int .u32 dst, .int .u16 a, .int .u16 b], .int .i64 0]))) := by
 by_cases h : e0 = 0
 ·subst h
  go_enter Tryz.func47, Tryz.ntmps47
  go_wp2_with fail
  exact bodyPost_ret (v := .tuple #[.agg #[.int .u8 proto, .int .u32 src, .int .u32 dst, .int .u16 a, .int .u16 b], .int .i64 0]) (by simp [results, Tryz.results47, go_sem]) rfl ⟨(((Below.refl _ _).alloc (Nat.le_refl _) _).alloc (by simp) _).alloc (by simp; omega) _, .inr ⟨trivial, rfl⟩⟩
 ·have h1 : (e0 != 0) = true := by simp [h]
  have H := hide h
  clear h
  go_enter Tryz.func47, Tryz.ntmps47
  go_wp2_with fail
  exact bodyPost_ret (v := .tuple #[.agg #[.int .u8 0, .int .u32 0, .int .u32 0, .int .u16 0, .int .u16 0], .int .i64 e0]) (by simp [results, Tryz.results47, go_sem]) rfl ⟨(((Below.refl _ _).alloc (Nat.le_refl _) _).alloc (by simp) _).alloc (by simp; omega) _, .inl ⟨H.out, rfl⟩⟩

def otv (e0 proto src dst a b : Int) : Value := if e0 = 0 then .agg #[.int .u8 proto, .int .u32 src, .int .u32 dst, .int .u16 a, .int .u16 b] else .agg #[.int .u8 0, .int .u32 0, .int .u32 0, .int .u16 0, .int .u16 0]

set_option maxHeartbeats 4000000 in
theorem ofUdp_any (tos id ttl proto src dst : Int) (keep : Bool) (so sd : Value) (zd : List Int) (w : World) (hB : Mt.By zd) (hI : Rd w.heap.size w sd zd) (hl : 12 + zd.length ≤ 140737488355328) (hsr : 0 ≤ src ∧ src ≤ 4294967295) (hds : 0 ≤ dst ∧ dst ≤ 4294967295) :
  Calls Tryz.prog 78 #[.agg #[.int .u8 tos, .int .u16 id, .bool keep, .int .u8 ttl, .int .u8 proto, .int .u32 src, .int .u32 dst, so, sd]] w fun e w' => Below w.heap.size w w' ∧ ∃ a b : Int, e = .returned (.tuple #[.agg #[.int .u16 a, .int .u16 b], .int .i64 (pue proto src dst zd)]) ∧ (pue proto src dst zd = 0 → a = wat zd 0 ∧ b = wat zd 2) := by
 obtain ⟨ad, cd, rfl, _, _⟩ := hI.slice
 have hb0 : Below w.heap.size w ((w.alloc (.cells #[.int .u8 tos, .int .u16 id, .bool keep, .int .u8 ttl, .int .u8 proto, .int .u32 src, .int .u32 dst, so, .slice ad zd.length cd] 26)).alloc (.cells #[.int .u16 0, .int .u16 0] 91)) := ((Below.refl _ _).alloc (Nat.le_refl _) _).alloc (by simp) _
 have r0 := heap_alloc_new (w.alloc (.cells #[.int .u8 tos, .int .u16 id, .bool keep, .int .u8 ttl, .int .u8 proto, .int .u32 src, .int .u32 dst, so, .slice ad zd.length cd] 26)) (.cells #[.int .u16 0, .int .u16 0] 91)
 rw [World.size_alloc] at r0
 have R0 := hide r0
 clear r0
 go_enter Tryz.func78, Tryz.ntmps78
 go_wp2_with fail
 generalize (w.alloc (.cells #[.int .u8 tos, .int .u16 id, .bool keep, .int .u8 ttl, .int .u8 proto, .int .u32 src, .int .u32 dst, so, .slice ad zd.length cd] 26)).alloc (.cells #[.int .u16 0, .int .u16 0] 91) = w0 at *
 refine (parseUdp_any tos id ttl proto src dst keep _ _ zd w0 hB ((hI.below hb0).mono hb0.size) (by omega) hsr hds).mono ?_
 rintro e w1 ⟨hb1, ⟨hf, rfl⟩ | ⟨hf, a1, c1, rfl, hO⟩⟩
 ·rw [show zud.toArray = #[.int .u16 0, .int .u16 0, .bool false, .slice none 0 0] from rfl]
  generalize hpu : pue proto src dst zd = f at *
  have HPU := hide hpu
  have HF := hide hf
  clear hf hpu
  have lq : Later w1 (w1.alloc (.cells #[.int .u16 0, .int .u16 0, .bool false, .slice none 0 0] 57)) := (Below.refl _ _).alloc (Nat.le_refl _) _
  have l1 := Later.trans hb1 lq
  have r1 := (l1.block _ (bl9 R0.out)).trans R0.out
  have hw1 := hb0.trans (l1.mono hb0.size)
  have kX := block_cell r1
  have fX := block_frozen r1
  go_wp2_with fail
  generalize w1.alloc (.cells #[.int .u16 0, .int .u16 0, .bool false, .slice none 0 0] 57) = W at *
  generalize hV : (W.setCell ⟨w.heap.size + 1, 0, none⟩ _).setCell ⟨w.heap.size + 1, 1, none⟩ _ = V
  have hV8 : V = putRow W (w.heap.size + 1) 0 [.int .u16 (0), .int .u16 (0)] := hV.symm
  have hbV : But (fun b => b = w.heap.size + 1) W V := by rw [hV8]; exact putRow_but (E := fun b => b = w.heap.size + 1) (n := w.heap.size + 1) rfl _ _ _ _ (But.refl _ _)
  have pV := putRow_all [Value.int .u16 (0), .int .u16 (0)] r1 rfl
  rw [← hV8] at pV
  clear hV hV8 kX fX
  have PV := block_cell pV
  have hwV : Below w.heap.size w V := hw1.trans (hbV.below hw1.size (fun k hk e => by omega))
  exact bodyPost_ret (v := .tuple #[.agg #[.int .u16 (0), .int .u16 (0)], .int .i64 f]) (by simp [results, Tryz.results78, go_sem, PV]) rfl ⟨hwV, _, _, by rw [HPU.out], fun h => absurd (HPU.out.symm.trans h) HF.out⟩
 ·have HF := hide hf
  clear hf
  have lq : Later w1 (w1.alloc (.cells #[.int .u16 (wat zd 0), .int .u16 (wat zd 2), .bool (wat zd 6 == 0), .slice a1 (zd.length - 8) c1] 57)) := (Below.refl _ _).alloc (Nat.le_refl _) _
  have l1 := Later.trans hb1 lq
  have r1 := (l1.block _ (bl9 R0.out)).trans R0.out
  have hw1 := hb0.trans (l1.mono hb0.size)
  have kX := block_cell r1
  have fX := block_frozen r1
  go_wp2_with fail
  generalize w1.alloc (.cells #[.int .u16 (wat zd 0), .int .u16 (wat zd 2), .bool (wat zd 6 == 0), .slice a1 (zd.length - 8) c1] 57) = W at *
  generalize hV : (W.setCell ⟨w.heap.size + 1, 0, none⟩ _).setCell ⟨w.heap.size + 1, 1, none⟩ _ = V
  have hV8 : V = putRow W (w.heap.size + 1) 0 [.int .u16 (wat zd 0), .int .u16 (wat zd 2)] := hV.symm
  have hbV : But (fun b => b = w.heap.size + 1) W V := by rw [hV8]; exact putRow_but (E := fun b => b = w.heap.size + 1) (n := w.heap.size + 1) rfl _ _ _ _ (But.refl _ _)
  have pV := putRow_all [Value.int .u16 (wat zd 0), .int .u16 (wat zd 2)] r1 rfl
  rw [← hV8] at pV
  clear hV hV8 kX fX
  have PV := block_cell pV
  have hwV : Below w.heap.size w V := hw1.trans (hbV.below hw1.size (fun k hk e => by omega))
  exact bodyPost_ret (v := .tuple #[.agg #[.int .u16 (wat zd 0), .int .u16 (wat zd 2)], .int .i64 0]) (by simp [results, Tryz.results78, go_sem, PV]) rfl ⟨hwV, _, _, by rw [HF.out], fun _ => ⟨rfl, rfl⟩⟩
end Go.Proofs.YtghpakfjpdifaaaGreatDoor
