/- Several texts in one. -/
import Derived.MapKept
import Derived.Test.YtghpakfjpdifaaaGreatDoorKK
import Derived.Test.YtghpakfjpdifaaaGreatDoorSF
import Derived.Test.YtghpakfjpdifaaaGreatDoorRt
import Derived.Test.YtghpakfjpdifaaaGreatDoorSB
import Derived.Test.YtghpakfjpdifaaaGreatDoorRg
import Derived.Test.YtghpakfjpdifaaaGreatDoorSE
import Derived.RangeFuncNested
import Derived.Test.YtghpakfjpdifaaaGreatDoorV5
import Derived.Test.YtghpakfjpdifaaaGreatDoorRk
/- Layer 5: the map of readers; what it holds; ofUdp, told. -/
namespace Go.Proofs.YtghpakfjpdifaaaGreatDoor
open Go.RowKit Go.Shelf
set_option maxRecDepth 100000
set_option linter.unusedVariables false
set_option linter.unusedSimpArgs false

theorem run_insq {P : Program} {q : IntKind} {t kt et : TypeId} (ht : P.underlying t = some (.map kt et)) (hk : P.underlying kt = some (.int q)) {w : World} {b : Nat} {es : Array MapEntry} {c : Nat} (hb : w.heap[b]? = some (.map es c)) (z : Int) (v : Value) (hf : Instr.findNow (.int q) (.int q z) es.toList 0 = some none) :
  ∃ w', (Instr.mapUpdate t (.map (some b)) (.int q z) v).run P w = .ok () w' ∧ w'.heap[b]? = some (.map (es.push ⟨.int q z, v, c⟩) (c + 1)) ∧ ∀ n, n ≤ b → Below n w w' := by
 have hc : (Instr.checkKey false 10000 kt (.int q z)).run P w = .ok () w := MapKept.run_checkKey (k := .int q z) hk (by simp [MapKept.IsKey]) false 9999
 have hlt := (Array.getElem?_eq_some_iff.1 hb).1
 refine ⟨{ w with heap := w.heap.setIfInBounds b (.map (es.push ⟨.int q z, v, c⟩) (c + 1)) }, ?_, ?_, fun n hn => ⟨rfl, rfl, rfl, by simp, fun i hi => ?_⟩⟩
 ·simp [Instr.mapUpdate, run_underlying ht, MapKept.run_getObj_map hb, hc, MapKept.run_findKey hk hf, MapKept.run_setObj_map _ hb, Result.andThen]
 ·simp [hlt]
 ·rw [Array.getElem?_setIfInBounds_ne (by omega)]

theorem run_findq {P : Program} {q : IntKind} {t kt et : TypeId} (ht : P.underlying t = some (.map kt et)) (hk : P.underlying kt = some (.int q)) {w : World} {b : Nat} {es : Array MapEntry} {c : Nat} (hb : w.heap[b]? = some (.map es c)) (z : Int) (v : Value) (ok : Bool)
  (hf : ((∃ j, Instr.findNow (.int q) (.int q z) es.toList 0 = some (some (j, v))) ∧ ok = true ∨ (Instr.findNow (.int q) (.int q z) es.toList 0 = some none ∧ (zeroValue et).run P w = .ok v w ∧ ok = false))) : (Instr.lookup t (.map (some b)) (.int q z) true).run P w = .ok (.tuple #[v, .bool ok]) w := by
 have hc : (Instr.checkKey es.isEmpty 10000 kt (.int q z)).run P w = .ok () w := MapKept.run_checkKey (k := .int q z) hk (by simp [MapKept.IsKey]) _ 9999
 rcases hf with ⟨⟨j, hf⟩, rfl⟩ | ⟨hf, hz, rfl⟩
 ·simp [Instr.lookup, run_underlying ht, MapKept.run_getObj_map hb, hc, MapKept.run_findKey hk hf, Result.andThen]
 ·simp [Instr.lookup, run_underlying ht, MapKept.run_getObj_map hb, hc, MapKept.run_findKey hk hf, hz, Result.andThen]

def rdE : Array MapEntry := #[⟨.int .u8 6, .agg #[.func (.func 76) #[] #[], .func (.func 77) #[] #[]], 0⟩, ⟨.int .u8 17, .agg #[.func (.func 78) #[] #[], .func (.func 77) #[] #[]], 1⟩, ⟨.int .u8 1, .agg #[.func (.func 79) #[] #[], .func (.func 80) #[] #[]], 2⟩, ⟨.int .u8 47, .agg #[.func (.func 81) #[] #[], .func (.func 82) #[] #[]], 3⟩]

set_option maxHeartbeats 1000000 in
theorem readers_any (w : World) : Calls Tryz.prog 46 #[] w fun e w' => ∃ b, e = .returned (.map (some b)) ∧ Below w.heap.size w w' ∧ w'.heap[b]? = some (.map rdE 4) := by
 have hmm := @run_makeMap Tryz.prog
 have hb0 : Below w.heap.size w (w.alloc (.map #[] 0)) := (Below.refl _ _).alloc (Nat.le_refl _) _
 have hM0 := heap_alloc_new w (.map #[] 0)
 obtain ⟨w1, r1, m1, l1⟩ := run_insq (P := Tryz.prog) Tryz.underlying88 Tryz.underlying5 hM0 6 (.agg #[.func (.func 76) #[] #[], .func (.func 77) #[] #[]]) (by kernel_rfl)
 obtain ⟨w2, r2, m2, l2⟩ := run_insq (P := Tryz.prog) Tryz.underlying88 Tryz.underlying5 m1 17 (.agg #[.func (.func 78) #[] #[], .func (.func 77) #[] #[]]) (by kernel_rfl)
 obtain ⟨w3, r3, m3, l3⟩ := run_insq (P := Tryz.prog) Tryz.underlying88 Tryz.underlying5 m2 1 (.agg #[.func (.func 79) #[] #[], .func (.func 80) #[] #[]]) (by kernel_rfl)
 obtain ⟨w4, r4, m4, l4⟩ := run_insq (P := Tryz.prog) Tryz.underlying88 Tryz.underlying5 m3 47 (.agg #[.func (.func 81) #[] #[], .func (.func 82) #[] #[]]) (by kernel_rfl)
 have hb4 : Below w.heap.size w w4 := (((hb0.trans (l1 _ (Nat.le_refl _))).trans (l2 _ (Nat.le_refl _))).trans (l3 _ (Nat.le_refl _))).trans (l4 _ (Nat.le_refl _))
 clear m1 m2 m3 l1 l2 l3 l4 hM0 hb0
 have M4 := hide m4
 clear m4
 go_enter Tryz.func46, Tryz.ntmps46
 go_wp2_with fail
 go_ret
 exact ⟨_, rfl, hb4, M4.out⟩

theorem look_udp {w : World} {b : Nat} (hb : w.heap[b]? = some (.map rdE 4)) : (Instr.lookup 88 (.map (some b)) (.int .u8 17) true).run Tryz.prog w = .ok (.tuple #[.agg #[.func (.func 78) #[] #[], .func (.func 77) #[] #[]], .bool true]) w :=
 run_findq Tryz.underlying88 Tryz.underlying5 hb 17 _ true (.inl ⟨⟨1, by kernel_rfl⟩, rfl⟩)

theorem look_tcp {w : World} {b : Nat} (hb : w.heap[b]? = some (.map rdE 4)) : (Instr.lookup 88 (.map (some b)) (.int .u8 6) true).run Tryz.prog w = .ok (.tuple #[.agg #[.func (.func 76) #[] #[], .func (.func 77) #[] #[]], .bool true]) w :=
 run_findq Tryz.underlying88 Tryz.underlying5 hb 6 _ true (.inl ⟨⟨0, by kernel_rfl⟩, rfl⟩)

theorem look_icmp {w : World} {b : Nat} (hb : w.heap[b]? = some (.map rdE 4)) : (Instr.lookup 88 (.map (some b)) (.int .u8 1) true).run Tryz.prog w = .ok (.tuple #[.agg #[.func (.func 79) #[] #[], .func (.func 80) #[] #[]], .bool true]) w :=
 run_findq Tryz.underlying88 Tryz.underlying5 hb 1 _ true (.inl ⟨⟨2, by kernel_rfl⟩, rfl⟩)

theorem look_gre {w : World} {b : Nat} (hb : w.heap[b]? = some (.map rdE 4)) : (Instr.lookup 88 (.map (some b)) (.int .u8 47) true).run Tryz.prog w = .ok (.tuple #[.agg #[.func (.func 81) #[] #[], .func (.func 82) #[] #[]], .bool true]) w :=
 run_findq Tryz.underlying88 Tryz.underlying5 hb 47 _ true (.inl ⟨⟨3, by kernel_rfl⟩, rfl⟩)

set_option maxHeartbeats 1000000 in
theorem told_any (tos id ttl proto src dst a b e0 : Int) (keep : Bool) (so sd : Value) (w : World) : Calls Tryz.prog 47 #[.agg #[.int .u8 tos, .int .u16 id, .bool keep, .int .u8 ttl, .int .u8 proto, .int .u32 src, .int .u32 dst, so, sd], .agg #[.int .u16 a, .int .u16 b], .int .i64 e0] w fun e w' => Below w.heap.size w w' ∧ ((e0 ≠ 0 ∧ e = .returned (.tuple #[.agg #[.int .u8 0, .int .u32 0, .int .u32 0, .int .u16 0, .int .u16 0], .int .i64 e0])) ∨ (e0 = 0 ∧ e = .returned (.tuple #[.agg #[.int .u8 proto, .int .u32 src, .int .u32 dst, .int .u16 a, .int .u16 b], .int .i64 0]))) := by
 by_cases h : e0 = 0
 ·subst h
  go_enter Tryz.func47, Tryz.ntmps47
  go_wp2_with fail
  exact bodyPost_ret (v := .tuple #[.agg #[.int .u8 proto, .int .u32 src, .int .u32 dst, .int .u16 a, .int .u16 b], .int .i64 0]) (by simp [results, Tryz.results47, go_sem]) rfl ⟨(((Below.refl _ _).alloc (Nat.le_refl _) _).alloc (by simp) _).alloc (by simp; omega) _, .inr ⟨trivial, rfl⟩⟩
 ·have h1 : (e0 != 0) = true := by simp [h]
  have H := hide h
  clear h
  go_enter Tryz.func47, Tryz.ntmps47
  go_wp2_with fail
  exact bodyPost_ret (v := .tuple #[.agg #[.int .u8 0, .int .u32 0, .int .u32 0, .int .u16 0, .int .u16 0], .int .i64 e0]) (by simp [results, Tryz.results47, go_sem]) rfl ⟨(((Below.refl _ _).alloc (Nat.le_refl _) _).alloc (by simp) _).alloc (by simp; omega) _, .inl ⟨H.out, rfl⟩⟩

def otv (e0 proto src dst a b : Int) : Value := if e0 = 0 then .agg #[.int .u8 proto, .int .u32 src, .int .u32 dst, .int .u16 a, .int .u16 b] else .agg #[.int .u8 0, .int .u32 0, .int .u32 0, .int .u16 0, .int .u16 0]

set_option maxHeartbeats 4000000 in
theorem ofUdp_any (tos id ttl proto src dst : Int) (keep : Bool) (so sd : Value) (zd : List Int) (w : World) (hB : Mt.By zd) (hI : Rd w.heap.size w sd zd) (hl : 12 + zd.length ≤ 140737488355328) (hsr : 0 ≤ src ∧ src ≤ 4294967295) (hds : 0 ≤ dst ∧ dst ≤ 4294967295) :
  Calls Tryz.prog 78 #[.agg #[.int .u8 tos, .int .u16 id, .bool keep, .int .u8 ttl, .int .u8 proto, .int .u32 src, .int .u32 dst, so, sd]] w fun e w' => Below w.heap.size w w' ∧ ∃ a b : Int, e = .returned (.tuple #[.agg #[.int .u16 a, .int .u16 b], .int .i64 (pue proto src dst zd)]) ∧ (pue proto src dst zd = 0 → a = wat zd 0 ∧ b = wat zd 2) := by
 obtain ⟨ad, cd, rfl, _, _⟩ := hI.slice
 have hb0 : Below w.heap.size w ((w.alloc (.cells #[.int .u8 tos, .int .u16 id, .bool keep, .int .u8 ttl, .int .u8 proto, .int .u32 src, .int .u32 dst, so, .slice ad zd.length cd] 26)).alloc (.cells #[.int .u16 0, .int .u16 0] 91)) := ((Below.refl _ _).alloc (Nat.le_refl _) _).alloc (by simp) _
 have r0 := heap_alloc_new (w.alloc (.cells #[.int .u8 tos, .int .u16 id, .bool keep, .int .u8 ttl, .int .u8 proto, .int .u32 src, .int .u32 dst, so, .slice ad zd.length cd] 26)) (.cells #[.int .u16 0, .int .u16 0] 91)
 rw [World.size_alloc] at r0
 have R0 := hide r0
 clear r0
 go_enter Tryz.func78, Tryz.ntmps78
 go_wp2_with fail
 generalize (w.alloc (.cells #[.int .u8 tos, .int .u16 id, .bool keep, .int .u8 ttl, .int .u8 proto, .int .u32 src, .int .u32 dst, so, .slice ad zd.length cd] 26)).alloc (.cells #[.int .u16 0, .int .u16 0] 91) = w0 at *
 refine (parseUdp_any tos id ttl proto src dst keep _ _ zd w0 hB ((hI.below hb0).mono hb0.size) (by omega) hsr hds).mono ?_
 rintro e w1 ⟨hb1, ⟨hf, rfl⟩ | ⟨hf, a1, c1, rfl, hO⟩⟩
 ·rw [show zud.toArray = #[.int .u16 0, .int .u16 0, .bool false, .slice none 0 0] from rfl]
  generalize hpu : pue proto src dst zd = f at *
  have HPU := hide hpu
  have HF := hide hf
  clear hf hpu
  have lq : Later w1 (w1.alloc (.cells #[.int .u16 0, .int .u16 0, .bool false, .slice none 0 0] 57)) := (Below.refl _ _).alloc (Nat.le_refl _) _
  have l1 := Later.trans hb1 lq
  have r1 := (l1.block _ (Array.getElem?_eq_some_iff.1 R0.out).1).trans R0.out
  have hw1 := hb0.trans (l1.mono hb0.size)
  have kX := block_cell r1
  have fX := block_frozen r1
  go_wp2_with fail
  generalize w1.alloc (.cells #[.int .u16 0, .int .u16 0, .bool false, .slice none 0 0] 57) = W at *
  generalize hV : (W.setCell ⟨w.heap.size + 1, 0, none⟩ _).setCell ⟨w.heap.size + 1, 1, none⟩ _ = V
  have hV8 : V = putRow W (w.heap.size + 1) 0 [.int .u16 (0), .int .u16 (0)] := hV.symm
  have hbV : But (fun b => b = w.heap.size + 1) W V := by rw [hV8]; exact putRow_but (E := fun b => b = w.heap.size + 1) (n := w.heap.size + 1) rfl _ _ _ _ (But.refl _ _)
  have pV := putRow_all [Value.int .u16 (0), .int .u16 (0)] r1 rfl
  rw [← hV8] at pV
  clear hV hV8 kX fX
  have PV := block_cell pV
  have hwV : Below w.heap.size w V := hw1.trans (hbV.below hw1.size (fun k hk e => by omega))
  exact bodyPost_ret (v := .tuple #[.agg #[.int .u16 (0), .int .u16 (0)], .int .i64 f]) (by simp [results, Tryz.results78, go_sem, PV]) rfl ⟨hwV, _, _, by rw [HPU.out], fun h => absurd (HPU.out.symm.trans h) HF.out⟩
 ·have HF := hide hf
  clear hf
  have lq : Later w1 (w1.alloc (.cells #[.int .u16 (wat zd 0), .int .u16 (wat zd 2), .bool (wat zd 6 == 0), .slice a1 (zd.length - 8) c1] 57)) := (Below.refl _ _).alloc (Nat.le_refl _) _
  have l1 := Later.trans hb1 lq
  have r1 := (l1.block _ (Array.getElem?_eq_some_iff.1 R0.out).1).trans R0.out
  have hw1 := hb0.trans (l1.mono hb0.size)
  have kX := block_cell r1
  have fX := block_frozen r1
  go_wp2_with fail
  generalize w1.alloc (.cells #[.int .u16 (wat zd 0), .int .u16 (wat zd 2), .bool (wat zd 6 == 0), .slice a1 (zd.length - 8) c1] 57) = W at *
  generalize hV : (W.setCell ⟨w.heap.size + 1, 0, none⟩ _).setCell ⟨w.heap.size + 1, 1, none⟩ _ = V
  have hV8 : V = putRow W (w.heap.size + 1) 0 [.int .u16 (wat zd 0), .int .u16 (wat zd 2)] := hV.symm
  have hbV : But (fun b => b = w.heap.size + 1) W V := by rw [hV8]; exact putRow_but (E := fun b => b = w.heap.size + 1) (n := w.heap.size + 1) rfl _ _ _ _ (But.refl _ _)
  have pV := putRow_all [Value.int .u16 (wat zd 0), .int .u16 (wat zd 2)] r1 rfl
  rw [← hV8] at pV
  clear hV hV8 kX fX
  have PV := block_cell pV
  have hwV : Below w.heap.size w V := hw1.trans (hbV.below hw1.size (fun k hk e => by omega))
  exact bodyPost_ret (v := .tuple #[.agg #[.int .u16 (wat zd 0), .int .u16 (wat zd 2)], .int .i64 0]) (by simp [results, Tryz.results78, go_sem, PV]) rfl ⟨hwV, _, _, by rw [HF.out], fun _ => ⟨rfl, rfl⟩⟩
end Go.Proofs.YtghpakfjpdifaaaGreatDoor

/- Layer 5: Of, of a datagram. -/
namespace Go.Proofs.YtghpakfjpdifaaaGreatDoor
open Go.RowKit Go.Shelf
set_option maxRecDepth 100000
set_option linter.unusedVariables false
set_option linter.unusedSimpArgs false

theorem run_store_fn (P : Program) (w : World) (a : Addr) (m : Mode) (f : Fn) (xs ys : Array Value) : (store a (.func f xs ys) m).run P w = stored P w a (.func f xs ys) m := run_store P w a _ m rfl

end Go.Proofs.YtghpakfjpdifaaaGreatDoor

/- Layer 5: Of, of any packet whose protocol has a reader; of one that has none. -/
namespace Go.Proofs.YtghpakfjpdifaaaGreatDoor
open Go.RowKit Go.Shelf
set_option maxRecDepth 100000
set_option linter.unusedVariables false
set_option linter.unusedSimpArgs false

theorem otv_ok (proto src dst a b : Int) : otv 0 proto src dst a b = .agg #[.int .u8 proto, .int .u32 src, .int .u32 dst, .int .u16 a, .int .u16 b] := rfl
theorem otv_no {e0 : Int} (h : e0 ≠ 0) (proto src dst a b : Int) : otv e0 proto src dst a b = .agg #[.int .u8 0, .int .u32 0, .int .u32 0, .int .u16 0, .int .u16 0] := if_neg h

set_option maxHeartbeats 4000000 in
theorem of_gen (pr x y e0 : Int) (fw fb : FuncId) (tos id ttl src dst : Int) (keep : Bool) (so : Value) (ad : Option Addr) (ld cd : Nat) (w : World)
  (hlk0 : ∀ (w : World) (b : Nat), w.heap[b]? = some (.map rdE 4) → (Instr.lookup 88 (.map (some b)) (.int .u8 pr) true).run Tryz.prog w = .ok (.tuple #[.agg #[.func (.func fw) #[] #[], .func (.func fb) #[] #[]], .bool true]) w)
  (hcf : ∀ (args : Array Value) (w : World), (callFunc fw args).run Tryz.prog w = .ok (.enter fw args) w)
  (hf : ∀ w', Below w.heap.size w w' → Calls Tryz.prog fw #[.agg #[.int .u8 tos, .int .u16 id, .bool keep, .int .u8 ttl, .int .u8 pr, .int .u32 src, .int .u32 dst, so, .slice ad ld cd]] w' fun e w'' => Below w'.heap.size w' w'' ∧ ∃ a b : Int, e = .returned (.tuple #[.agg #[.int .u16 a, .int .u16 b], .int .i64 e0]) ∧ (e0 = 0 → a = x ∧ b = y)) :
  Calls Tryz.prog 70 #[.agg #[.int .u8 tos, .int .u16 id, .bool keep, .int .u8 ttl, .int .u8 pr, .int .u32 src, .int .u32 dst, so, .slice ad ld cd]] w fun e w' => Below w.heap.size w w' ∧ e = .returned (.tuple #[otv e0 pr src dst x y, .int .i64 e0]) := by
 have hb0 : Below w.heap.size w ((w.alloc (.cells #[.int .u8 tos, .int .u16 id, .bool keep, .int .u8 ttl, .int .u8 pr, .int .u32 src, .int .u32 dst, so, .slice ad ld cd] 26)).alloc (.cells #[.int .u8 0, .int .u32 0, .int .u32 0, .int .u16 0, .int .u16 0] 29)) := ((Below.refl _ _).alloc (Nat.le_refl _) _).alloc (by simp) _
 have p0 : ((w.alloc (.cells #[.int .u8 tos, .int .u16 id, .bool keep, .int .u8 ttl, .int .u8 pr, .int .u32 src, .int .u32 dst, so, .slice ad ld cd] 26)).alloc (.cells #[.int .u8 0, .int .u32 0, .int .u32 0, .int .u16 0, .int .u16 0] 29)).heap[w.heap.size]? = some (.cells #[.int .u8 tos, .int .u16 id, .bool keep, .int .u8 ttl, .int .u8 pr, .int .u32 src, .int .u32 dst, so, .slice ad ld cd] 26) := (Below.heap_alloc _ _ _ (by simp)).trans (heap_alloc_new w _)
 have r0 := heap_alloc_new (w.alloc (.cells #[.int .u8 tos, .int .u16 id, .bool keep, .int .u8 ttl, .int .u8 pr, .int .u32 src, .int .u32 dst, so, .slice ad ld cd] 26)) (.cells #[.int .u8 0, .int .u32 0, .int .u32 0, .int .u16 0, .int .u16 0] 29)
 rw [World.size_alloc] at r0
 have hs0 : ((w.alloc (.cells #[.int .u8 tos, .int .u16 id, .bool keep, .int .u8 ttl, .int .u8 pr, .int .u32 src, .int .u32 dst, so, .slice ad ld cd] 26)).alloc (.cells #[.int .u8 0, .int .u32 0, .int .u32 0, .int .u16 0, .int .u16 0] 29)).heap.size = w.heap.size + 2 := by simp
 have HS0 := hide hs0
 have P0 := hide p0
 have R0 := hide r0
 clear r0 hs0 p0
 go_enter Tryz.func70, Tryz.ntmps70
 go_upto_region 1 with fail
 generalize (w.alloc (.cells #[.int .u8 tos, .int .u16 id, .bool keep, .int .u8 ttl, .int .u8 pr, .int .u32 src, .int .u32 dst, so, .slice ad ld cd] 26)).alloc (.cells #[.int .u8 0, .int .u32 0, .int .u32 0, .int .u16 0, .int .u16 0] 29) = w0 at *
 have hlt0 : w.heap.size + 1 < w0.heap.size := by have := HS0.out; omega
 have p0 := P0.out
 go_cut [4, 5] (fun q x wx => ∃ g, q = .pointer (some ⟨g, 0, none⟩) ∧ x = .bool true ∧ wx.heap[g]? = some (.cells #[.func (.func fw) #[] #[], .func (.func fb) #[] #[]] 86 (0, 0)) ∧ Below w0.heap.size w0 wx)
 case first =>
  refine anyT_begin (R := But (fun b => w0.heap.size ≤ b)) 10 rfl (by kernel_rfl) ?_
  have hd : Later w0 w0.drew := Later.drew w0
  have pd := (hd.block w.heap.size (Array.getElem?_eq_some_iff.1 p0).1).trans p0
  have bd : Below w0.heap.size w0 w0.drew := hd
  generalize w0.drew = Wd at *
  have ha : ∀ v1, But (fun b => w0.heap.size ≤ b) Wd v1 → ∀ i, v1.cell? ⟨w.heap.size, i, none⟩ = #[Value.int .u8 tos, .int .u16 id, .bool keep, .int .u8 ttl, .int .u8 pr, .int .u32 src, .int .u32 dst, so, .slice ad ld cd][i]? := fun v1 h => block_cell ((h.block w.heap.size (Array.getElem?_eq_some_iff.1 pd).1 (by omega)).trans pd)
  have hz : w0.heap.size ≤ Wd.heap.size := bd.size
  refine anyT_val (But.pre _) 1 rfl (by kernel_rfl) (by kernel_rfl) (by kernel_rfl) (fun _ _ _ _ h => h) rfl ?_; apply Exists.intro; refine ⟨fun v1 hv1 => ?_, ?_⟩; (· (go_simp; rfl)); simp only [Act.put, sA, sB, sC]
  refine anyT_val (But.pre _) 2 rfl (by kernel_rfl) (by kernel_rfl) (by kernel_rfl) (fun _ _ _ _ h => h) rfl ?_; apply Exists.intro; refine ⟨fun v1 hv1 => ?_, ?_⟩; (· (go_simp; rfl)); simp only [Act.put, sA, sB, sC]
  refine anyT_two 0 7 rfl rfl (by kernel_rfl) rfl rfl ?_ ?_
  ·skip
   refine wp_enter 46 #[] (by go_simp) ?_
   refine (readers_any Wd).mono ?_
   rintro e W3 ⟨m, rfl, hb3, hM3⟩
   have l3 : Later Wd W3 := hb3
   refine ⟨But.of l3, ?_⟩
   simp only [Act.put, sA, sB, sC]
   have hlk := hlk0 _ _ hM3
   refine anyT_two 3 7 rfl rfl (by kernel_rfl) rfl rfl ?_ ?_
   ·unfold Oper.wp
    go_simp
    refine ⟨But.refl _ _, ?_⟩
    clear hlk
    refine anyT_val (But.pre _) 4 rfl (by kernel_rfl) (by kernel_rfl) (by kernel_rfl) (fun _ _ _ _ h => h) rfl ?_; apply Exists.intro; refine ⟨fun v1 hv1 => ?_, ?_⟩; (· (go_simp; rfl)); simp only [Act.put, sA, sB, sC]
    refine anyT_val (But.pre _) 5 rfl (by kernel_rfl) (by kernel_rfl) (by kernel_rfl) (fun _ _ _ _ h => h) rfl ?_; apply Exists.intro; refine ⟨fun v1 hv1 => ?_, ?_⟩; (· (go_simp; rfl)); simp only [Act.put, sA, sB, sC]
    refine anyT_val (But.pre _) 6 rfl (by kernel_rfl) (by kernel_rfl) (by kernel_rfl) (fun _ _ _ _ h => h) rfl ?_; apply Exists.intro; refine ⟨fun v1 hv1 => ?_, ?_⟩; (· (go_simp; rfl)); simp only [Act.put, sA, sB, sC]
    refine anyT_one 7 rfl (by kernel_rfl) rfl ?_
    unfold Oper.wp
    go_simp
    have l4 : Later W3 (W3.alloc (.cells #[.nilFunc, .nilFunc] 86)) := (Below.refl _ _).alloc (Nat.le_refl _) _
    have g4 := heap_alloc_new W3 (.cells #[.nilFunc, .nilFunc] 86)
    have b4 : Below w0.heap.size w0 (W3.alloc (.cells #[.nilFunc, .nilFunc] 86)) := (bd.trans (l3.mono hz)).trans (l4.mono (Nat.le_trans hz l3.size))
    have hge : w0.heap.size ≤ W3.heap.size := Nat.le_trans hz l3.size
    refine ⟨But.of l4, ?_⟩
    generalize W3.alloc (.cells #[.nilFunc, .nilFunc] 86) = W4 at *
    generalize W3.heap.size = g at *
    have kg := block_cell g4
    have fg := block_frozen g4
    have hsf := run_store_fn Tryz.prog
    refine anyT_one 8 rfl (by kernel_rfl) rfl ?_
    unfold Oper.wp
    go_simp
    generalize hV : (W4.setCell ⟨g, 0, none⟩ _).setCell ⟨g, 1, none⟩ _ = V
    have hV8 : V = putRow W4 (g) 0 [.func (.func fw) #[] #[], .func (.func fb) #[] #[]] := hV.symm
    have hbV : But (fun b => w0.heap.size ≤ b) W4 V := by rw [hV8]; exact putRow_but (E := fun b => w0.heap.size ≤ b) (n := g) hge _ _ _ _ (But.refl _ _)
    have pV := putRow_all [Value.func (.func fw) #[] #[], .func (.func fb) #[] #[]] g4 rfl
    rw [← hV8] at pV
    clear hV hV8 kg fg hsf
    refine ⟨hbV, ?_⟩
    refine anyT_one 9 rfl (by kernel_rfl) rfl ?_
    unfold Oper.wp
    go_simp
    refine ⟨But.refl _ _, ?_⟩
    refine anyT_done (by kernel_rfl) ?_
    have hbl : Below w0.heap.size w0 V := b4.trans (hbV.below b4.size (fun k hk e => by omega))
    clear ha
    go_wp2_with fail
    go_meet
    exact ⟨_, rfl, rfl, pV, hbl⟩
   ·unfold Oper.wp
    go_simp
    have l4 : Later W3 (W3.alloc (.cells #[.nilFunc, .nilFunc] 86)) := (Below.refl _ _).alloc (Nat.le_refl _) _
    have g4 := heap_alloc_new W3 (.cells #[.nilFunc, .nilFunc] 86)
    have b4 : Below w0.heap.size w0 (W3.alloc (.cells #[.nilFunc, .nilFunc] 86)) := (bd.trans (l3.mono hz)).trans (l4.mono (Nat.le_trans hz l3.size))
    have hge : w0.heap.size ≤ W3.heap.size := Nat.le_trans hz l3.size
    have hM4 := (l4.block m (Array.getElem?_eq_some_iff.1 hM3).1).trans hM3
    refine ⟨But.of l4, ?_⟩
    clear hlk
    generalize W3.alloc (.cells #[.nilFunc, .nilFunc] 86) = W4 at *
    generalize W3.heap.size = g at *
    have hlk := hlk0 _ _ hM4
    refine anyT_one 3 rfl (by kernel_rfl) rfl ?_
    unfold Oper.wp
    go_simp
    refine ⟨But.refl _ _, ?_⟩
    clear hlk
    refine anyT_val (But.pre _) 4 rfl (by kernel_rfl) (by kernel_rfl) (by kernel_rfl) (fun _ _ _ _ h => h) rfl ?_; apply Exists.intro; refine ⟨fun v1 hv1 => ?_, ?_⟩; (· (go_simp; rfl)); simp only [Act.put, sA, sB, sC]
    refine anyT_val (But.pre _) 5 rfl (by kernel_rfl) (by kernel_rfl) (by kernel_rfl) (fun _ _ _ _ h => h) rfl ?_; apply Exists.intro; refine ⟨fun v1 hv1 => ?_, ?_⟩; (· (go_simp; rfl)); simp only [Act.put, sA, sB, sC]
    refine anyT_val (But.pre _) 6 rfl (by kernel_rfl) (by kernel_rfl) (by kernel_rfl) (fun _ _ _ _ h => h) rfl ?_; apply Exists.intro; refine ⟨fun v1 hv1 => ?_, ?_⟩; (· (go_simp; rfl)); simp only [Act.put, sA, sB, sC]
    have kg := block_cell g4
    have fg := block_frozen g4
    have hsf := run_store_fn Tryz.prog
    refine anyT_one 8 rfl (by kernel_rfl) rfl ?_
    unfold Oper.wp
    go_simp
    generalize hV : (W4.setCell ⟨g, 0, none⟩ _).setCell ⟨g, 1, none⟩ _ = V
    have hV8 : V = putRow W4 (g) 0 [.func (.func fw) #[] #[], .func (.func fb) #[] #[]] := hV.symm
    have hbV : But (fun b => w0.heap.size ≤ b) W4 V := by rw [hV8]; exact putRow_but (E := fun b => w0.heap.size ≤ b) (n := g) hge _ _ _ _ (But.refl _ _)
    have pV := putRow_all [Value.func (.func fw) #[] #[], .func (.func fb) #[] #[]] g4 rfl
    rw [← hV8] at pV
    clear hV hV8 kg fg hsf
    refine ⟨hbV, ?_⟩
    refine anyT_one 9 rfl (by kernel_rfl) rfl ?_
    unfold Oper.wp
    go_simp
    refine ⟨But.refl _ _, ?_⟩
    refine anyT_done (by kernel_rfl) ?_
    have hbl : Below w0.heap.size w0 V := b4.trans (hbV.below b4.size (fun k hk e => by omega))
    clear ha
    go_wp2_with fail
    go_meet
    exact ⟨_, rfl, rfl, pV, hbl⟩
  ·unfold Oper.wp
   go_simp
   have l4 : Later Wd (Wd.alloc (.cells #[.nilFunc, .nilFunc] 86)) := (Below.refl _ _).alloc (Nat.le_refl _) _
   have g4 := heap_alloc_new Wd (.cells #[.nilFunc, .nilFunc] 86)
   have b4 : Below w0.heap.size w0 (Wd.alloc (.cells #[.nilFunc, .nilFunc] 86)) := bd.trans (l4.mono hz)
   refine ⟨But.of l4, ?_⟩
   have hge : w0.heap.size ≤ Wd.heap.size := hz
   generalize Wd.alloc (.cells #[.nilFunc, .nilFunc] 86) = W4 at *
   generalize Wd.heap.size = g at *
   refine anyT_one 0 rfl (by kernel_rfl) rfl ?_
   refine wp_enter 46 #[] (by go_simp) ?_
   refine (readers_any W4).mono ?_
   rintro e W5 ⟨m, rfl, hb5, hM5⟩
   have l5 : Later W4 W5 := hb5
   have g5 := (l5.block g (Array.getElem?_eq_some_iff.1 g4).1).trans g4
   have b5 : Below w0.heap.size w0 W5 := b4.trans (l5.mono b4.size)
   refine ⟨But.of l5, ?_⟩
   simp only [Act.put, sA, sB, sC]
   have hlk := hlk0 _ _ hM5
   refine anyT_one 3 rfl (by kernel_rfl) rfl ?_
   unfold Oper.wp
   go_simp
   refine ⟨But.refl _ _, ?_⟩
   clear hlk
   refine anyT_val (But.pre _) 4 rfl (by kernel_rfl) (by kernel_rfl) (by kernel_rfl) (fun _ _ _ _ h => h) rfl ?_; apply Exists.intro; refine ⟨fun v1 hv1 => ?_, ?_⟩; (· (go_simp; rfl)); simp only [Act.put, sA, sB, sC]
   refine anyT_val (But.pre _) 5 rfl (by kernel_rfl) (by kernel_rfl) (by kernel_rfl) (fun _ _ _ _ h => h) rfl ?_; apply Exists.intro; refine ⟨fun v1 hv1 => ?_, ?_⟩; (· (go_simp; rfl)); simp only [Act.put, sA, sB, sC]
   refine anyT_val (But.pre _) 6 rfl (by kernel_rfl) (by kernel_rfl) (by kernel_rfl) (fun _ _ _ _ h => h) rfl ?_; apply Exists.intro; refine ⟨fun v1 hv1 => ?_, ?_⟩; (· (go_simp; rfl)); simp only [Act.put, sA, sB, sC]
   have kg := block_cell g5
   have fg := block_frozen g5
   have hsf := run_store_fn Tryz.prog
   refine anyT_one 8 rfl (by kernel_rfl) rfl ?_
   unfold Oper.wp
   go_simp
   generalize hV : (W5.setCell ⟨g, 0, none⟩ _).setCell ⟨g, 1, none⟩ _ = V
   have hV8 : V = putRow W5 (g) 0 [.func (.func fw) #[] #[], .func (.func fb) #[] #[]] := hV.symm
   have hbV : But (fun b => w0.heap.size ≤ b) W5 V := by rw [hV8]; exact putRow_but (E := fun b => w0.heap.size ≤ b) (n := g) hge _ _ _ _ (But.refl _ _)
   have pV := putRow_all [Value.func (.func fw) #[] #[], .func (.func fb) #[] #[]] g5 rfl
   rw [← hV8] at pV
   clear hV hV8 kg fg hsf
   refine ⟨hbV, ?_⟩
   refine anyT_one 9 rfl (by kernel_rfl) rfl ?_
   unfold Oper.wp
   go_simp
   refine ⟨But.refl _ _, ?_⟩
   refine anyT_done (by kernel_rfl) ?_
   have hbl : Below w0.heap.size w0 V := b5.trans (hbV.below b5.size (fun k hk e => by omega))
   clear ha
   go_wp2_with fail
   go_meet
   exact ⟨_, rfl, rfl, pV, hbl⟩
 case rest =>
  obtain ⟨g, rfl, rfl, hg, hbc⟩ := hcut
  have pc := (hbc.block w.heap.size (Array.getElem?_eq_some_iff.1 p0).1).trans p0
  have rc := (hbc.block _ (Array.getElem?_eq_some_iff.1 R0.out).1).trans R0.out
  have hwc := hb0.trans (hbc.mono hb0.size)
  have kg := block_cell hg
  have kp := block_cell pc
  go_wp2_with fail
  refine (hf wc hwc).mono ?_
  rintro e w5 ⟨hb5, u, v, rfl, hab⟩
  have HAB := hide hab
  clear hab
  have l6 : Later w5 (w5.alloc (.cells #[.int .u16 u, .int .u16 v] 91)) := (Below.refl _ _).alloc (Nat.le_refl _) _
  have l56 := Later.trans hb5 l6
  have p6 := (l56.block w.heap.size (Array.getElem?_eq_some_iff.1 pc).1).trans pc
  have r6 := (l56.block _ (Array.getElem?_eq_some_iff.1 rc).1).trans rc
  have hw6 := hwc.trans (l56.mono hwc.size)
  clear kg kp
  have kp := block_cell p6
  go_wp2_with fail
  generalize w5.alloc (.cells #[.int .u16 u, .int .u16 v] 91) = w6 at *
  refine (told_any tos id ttl pr src dst u v e0 keep so _ w6).mono ?_
  rintro e w7 ⟨hb7, ⟨hx, rfl⟩ | ⟨hx, rfl⟩⟩
  ·have HX := hide hx
   clear hx
   have r7 := (Below.block hb7 _ (Array.getElem?_eq_some_iff.1 r6).1).trans r6
   have hw7 := hw6.trans (hb7.mono hw6.size)
   have k7 := block_cell r7
   have f7 := block_frozen r7
   clear kp
   go_wp2_with fail
   generalize hV : ((((w7.setCell ⟨w.heap.size + 1, 0, none⟩ _).setCell ⟨w.heap.size + 1, 1, none⟩ _).setCell ⟨w.heap.size + 1, 2, none⟩ _).setCell ⟨w.heap.size + 1, 3, none⟩ _).setCell ⟨w.heap.size + 1, 4, none⟩ _ = V
   have hV8 : V = putRow w7 (w.heap.size + 1) 0 [.int .u8 0, .int .u32 0, .int .u32 0, .int .u16 0, .int .u16 0] := hV.symm
   have hbV : But (fun b => b = w.heap.size + 1) w7 V := by rw [hV8]; exact putRow_but (E := fun b => b = w.heap.size + 1) (n := w.heap.size + 1) rfl _ _ _ _ (But.refl _ _)
   have pV := putRow_all ([.int .u8 0, .int .u32 0, .int .u32 0, .int .u16 0, .int .u16 0] : List Value) r7 rfl
   rw [← hV8] at pV
   clear hV hV8 k7 f7
   have PV := block_cell pV
   have hwV : Below w.heap.size w V := hw7.trans (hbV.below hw7.size (fun k hk e => by omega))
   exact bodyPost_ret (v := .tuple #[.agg #[.int .u8 0, .int .u32 0, .int .u32 0, .int .u16 0, .int .u16 0], .int .i64 e0]) (by simp [results, Tryz.results70, go_sem, PV]) rfl ⟨hwV, by rw [otv_no HX.out]⟩
  ·subst hx
   obtain ⟨rfl, rfl⟩ := HAB.out rfl
   have r7 := (Below.block hb7 _ (Array.getElem?_eq_some_iff.1 r6).1).trans r6
   have hw7 := hw6.trans (hb7.mono hw6.size)
   have k7 := block_cell r7
   have f7 := block_frozen r7
   clear kp
   go_wp2_with fail
   generalize hV : ((((w7.setCell ⟨w.heap.size + 1, 0, none⟩ _).setCell ⟨w.heap.size + 1, 1, none⟩ _).setCell ⟨w.heap.size + 1, 2, none⟩ _).setCell ⟨w.heap.size + 1, 3, none⟩ _).setCell ⟨w.heap.size + 1, 4, none⟩ _ = V
   have hV8 : V = putRow w7 (w.heap.size + 1) 0 [.int .u8 pr, .int .u32 src, .int .u32 dst, .int .u16 u, .int .u16 v] := hV.symm
   have hbV : But (fun b => b = w.heap.size + 1) w7 V := by rw [hV8]; exact putRow_but (E := fun b => b = w.heap.size + 1) (n := w.heap.size + 1) rfl _ _ _ _ (But.refl _ _)
   have pV := putRow_all ([.int .u8 pr, .int .u32 src, .int .u32 dst, .int .u16 u, .int .u16 v] : List Value) r7 rfl
   rw [← hV8] at pV
   clear hV hV8 k7 f7
   have PV := block_cell pV
   have hwV : Below w.heap.size w V := hw7.trans (hbV.below hw7.size (fun k hk e => by omega))
   exact bodyPost_ret (v := .tuple #[.agg #[.int .u8 pr, .int .u32 src, .int .u32 dst, .int .u16 u, .int .u16 v], .int .i64 0]) (by simp [results, Tryz.results70, go_sem, PV]) rfl ⟨hwV, rfl⟩

theorem cf_tcp (args : Array Value) (w : World) : (callFunc 76 args).run Tryz.prog w = .ok (.enter 76 args) w := by kernel_rfl

theorem cf_udp (args : Array Value) (w : World) : (callFunc 78 args).run Tryz.prog w = .ok (.enter 78 args) w := by kernel_rfl

theorem cf_icmp (args : Array Value) (w : World) : (callFunc 79 args).run Tryz.prog w = .ok (.enter 79 args) w := by kernel_rfl

theorem cf_gre (args : Array Value) (w : World) : (callFunc 81 args).run Tryz.prog w = .ok (.enter 81 args) w := by kernel_rfl
end Go.Proofs.YtghpakfjpdifaaaGreatDoor

/- Options of a segment: the mathematics of their bytes. -/
namespace Go.Proofs.YtghpakfjpdifaaaGreatDoor
set_option maxRecDepth 100000
set_option linter.unusedVariables false
set_option linter.unusedSimpArgs false

/-- An option: its kind and its data. -/
abbrev Opt := Int × List Int
def ob1 (o : Opt) : List Int := if o.1 = 1 then [1] else o.1 :: (2 + (o.2.length : Int)) :: o.2
def okO (o : Opt) : Prop := o.1 ≠ 0 ∧ (o.1 = 1 → o.2 = [])
instance (o : Opt) : Decidable (okO o) := by unfold okO; exact inferInstance
def obs (os : List Opt) : List Int := os.flatMap ob1
def obOk (os : List Opt) : Prop := (∀ o ∈ os, okO o) ∧ (obs os).length ≤ 40
instance (os : List Opt) : Decidable (obOk os) := by unfold obOk; exact inferInstance
/-- Bytes as options; none: they are wrong. -/
def po : Nat → List Int → Option (List Opt)
 | 0, _ => none
 | _ + 1, [] => some []
 | n + 1, k :: r =>
  if k = 0 then (if ∀ x ∈ r, x = 0 then some [] else none)
  else if k = 1 then (po n r).map ((1, []) :: ·)
  else match r with
   | [] => none
   | s :: r' => if s < 2 ∨ (r'.length : Int) + 2 < s then none else (po n (r'.drop (s.toNat - 2))).map ((k, r'.take (s.toNat - 2)) :: ·)
theorem po_fuel : ∀ (n m : Nat) (l : List Int), l.length < n → l.length < m → po n l = po m l
 | 0, _, _, h, _ => by omega
 | _ + 1, 0, _, _, h => by omega
 | n + 1, m + 1, [], _, _ => rfl
 | n + 1, m + 1, k :: r, h, h' => by
  simp at h h'
  unfold po
  split
  ·rfl
  split
  ·rw [po_fuel n m r (by omega) (by omega)]
  cases r with
  | nil => rfl
  | cons s r' =>
   dsimp only
   split
   ·rfl
   ·rw [po_fuel n m (r'.drop (s.toNat - 2)) (by simp at h ⊢; omega) (by simp at h' ⊢; omega)]
def opts (zs : List Int) : Option (List Opt) := po (zs.length + 1) zs
theorem opts_nil : opts [] = some [] := rfl
theorem opts_zero (r : List Int) : opts (0 :: r) = if ∀ x ∈ r, x = 0 then some [] else none := by unfold opts po; rw [if_pos rfl]
theorem opts_one (r : List Int) : opts (1 :: r) = (opts r).map ((1, []) :: ·) := by
 show po ((r.length + 1) + 1) (1 :: r) = _
 unfold opts
 conv => lhs; unfold po
 rw [if_neg (by decide), if_pos rfl]
theorem opts_bare (k : Int) (h0 : k ≠ 0) (h1 : k ≠ 1) : opts [k] = none := by unfold opts po; rw [if_neg h0, if_neg h1]
theorem opts_wrong (k s : Int) (r : List Int) (h0 : k ≠ 0) (h1 : k ≠ 1) (h : s < 2 ∨ (r.length : Int) + 2 < s) : opts (k :: s :: r) = none := by
 unfold opts po; rw [if_neg h0, if_neg h1]; simp only; rw [if_pos h]
theorem opts_more (k s : Int) (r : List Int) (h0 : k ≠ 0) (h1 : k ≠ 1) (h : 2 ≤ s) (h' : s ≤ (r.length : Int) + 2) : opts (k :: s :: r) = (opts (r.drop (s.toNat - 2))).map ((k, r.take (s.toNat - 2)) :: ·) := by
 show po ((k :: s :: r).length + 1) (k :: s :: r) = _
 unfold opts
 conv => lhs; unfold po
 rw [if_neg h0, if_neg h1]
 simp only
 rw [if_neg (by omega), po_fuel _ ((r.drop (s.toNat - 2)).length + 1) (r.drop (s.toNat - 2)) (by simp; omega) (by omega)]

end Go.Proofs.YtghpakfjpdifaaaGreatDoor

/- Regions that draw and make a block of their own: what stays. -/
namespace Go.Proofs.YtghpakfjpdifaaaGreatDoor
open Go.RowKit Go.Shelf
set_option maxRecDepth 100000
set_option linter.unusedVariables false

/-- Blocks from n₁ on may turn; one that may be written stays so, and one that holds arr. -/
def KI (n₁ : Nat) (t : TypeId) (k : Nat) (arr : Array Value) (w w' : World) : Prop :=
 But (fun b => n₁ ≤ b) w w' ∧ (∀ pb, Wr pb k t w → Wr pb k t w') ∧ ∀ pb : Nat, w.heap[pb]? = some (Obj.cells arr t (0, 0)) → w'.heap[pb]? = some (Obj.cells arr t (0, 0))
theorem KI.pre (n₁ : Nat) (t : TypeId) (k : Nat) (arr : Array Value) : Pre (KI n₁ t k arr) :=
 ⟨fun a => ⟨But.refl _ a, fun _ h => h, fun _ h => h⟩, fun _ _ _ h l => ⟨h.1.trans l.1, fun pb g => l.2.1 pb (h.2.1 pb g), fun pb g => l.2.2 pb (h.2.2 pb g)⟩⟩
theorem KI.refl {n₁ : Nat} {t : TypeId} {k : Nat} {arr : Array Value} (a : World) : KI n₁ t k arr a a := (KI.pre n₁ t k arr).1 a
theorem KI.trans {n₁ : Nat} {t : TypeId} {k : Nat} {arr : Array Value} {a b c : World} (h : KI n₁ t k arr a b) (l : KI n₁ t k arr b c) : KI n₁ t k arr a c := (KI.pre n₁ t k arr).2 _ _ _ h l
theorem KI.of {n₁ : Nat} {t : TypeId} {k : Nat} {arr : Array Value} {a b : World} (l : Later a b) : KI n₁ t k arr a b :=
 ⟨But.of l, fun pb h => h.later l, fun pb h => (l.block pb (Array.getElem?_eq_some_iff.1 h).1).trans h⟩
theorem KI.store {n₁ pb : Nat} {t : TypeId} {k : Nat} {w : World} (vs : List Value) (hn : n₁ ≤ pb) (hw : Wr pb k t w) (hk : vs.length = k) : KI n₁ t k vs.toArray w (putRow w pb 0 vs) ∧ (putRow w pb 0 vs).heap[pb]? = some (Obj.cells vs.toArray t (0, 0)) := by
 obtain ⟨cur, hc, hs⟩ := hw
 have hall := putRow_all vs hc (by omega)
 have hbut : But (fun b => b = pb) w (putRow w pb 0 vs) := putRow_but (E := fun b => b = pb) (n := pb) rfl vs 0 w w (But.refl _ _)
 have keep : ∀ p o, p ≠ pb → w.heap[p]? = some o → (putRow w pb 0 vs).heap[p]? = some o := fun p o hp h => (hbut.block p (Array.getElem?_eq_some_iff.1 h).1 hp).trans h
 refine ⟨⟨putRow_but (E := fun b => n₁ ≤ b) (n := pb) hn vs 0 w w (But.refl _ _), fun p h => ?_, fun p h => ?_⟩, hall⟩
 ·by_cases hp : p = pb
  ·subst hp; exact ⟨_, hall, by simpa using hk⟩
  ·obtain ⟨c, h1, h2⟩ := h; exact ⟨c, keep p _ hp h1, h2⟩
 ·by_cases hp : p = pb
  ·subst hp; exact hall
  ·exact keep p _ hp h


section
variable {P : Program} {l : List Oper} {Q : Exit → Act → World → Prop} {fuel : Nat} {listed : Array Bool} {a : Act} {w : World} {R : World → World → Prop}
end
end Go.Proofs.YtghpakfjpdifaaaGreatDoor

/- Package segs: options as they lie in memory; which are right, how long they are. -/
namespace Go.Proofs.YtghpakfjpdifaaaGreatDoor
open Go.RowKit Go.Shelf
set_option maxRecDepth 100000
set_option linter.unusedVariables false
set_option linter.unusedSimpArgs false

/-- The slice value reads as these options, all of it below block n₀. -/
def RdO (n₀ : Nat) (W : World) (sv : Value) (os : List Opt) : Prop :=
 (∃ a cap, sv = .slice a 0 cap ∧ os = [] ∧ cap ≤ 9223372036854775807 ∧ (a = none → cap = 0)) ∨
 ∃ b off cap, sv = .slice (some ⟨b, off, none⟩) os.length cap ∧ os ≠ [] ∧ os.length ≤ cap ∧ cap ≤ 9223372036854775807 ∧ b < n₀ ∧
  ∀ j, j < os.length → ∃ s, W.cell? ⟨b, off + j * 2, none⟩ = some (.int .u8 (os[j]?.getD (0, [])).1) ∧ W.cell? ⟨b, off + j * 2 + 1, none⟩ = some s ∧ Rd n₀ W s (os[j]?.getD (0, [])).2
theorem RdO.below {n₀ : Nat} {A B : World} (h : Below n₀ A B) {sv : Value} {os : List Opt} : RdO n₀ A sv os → RdO n₀ B sv os
 | .inl e => .inl e
 | .inr ⟨b, off, cap, e, hne, hl, hm, hb, hc⟩ => .inr ⟨b, off, cap, e, hne, hl, hm, hb, fun j hj => let ⟨s, h1, h2, h3⟩ := hc j hj; ⟨s, (h.cell (p := ⟨b, off + j * 2, none⟩) hb).trans h1, (h.cell (p := ⟨b, off + j * 2 + 1, none⟩) hb).trans h2, h3.below h⟩⟩
theorem RdO.mono {n₀ n₁ : Nat} {A : World} (h : n₀ ≤ n₁) {sv : Value} {os : List Opt} : RdO n₀ A sv os → RdO n₁ A sv os
 | .inl e => .inl e
 | .inr ⟨b, off, cap, e, hne, hl, hm, hb, hc⟩ => .inr ⟨b, off, cap, e, hne, hl, hm, Nat.lt_of_lt_of_le hb h, fun j hj => let ⟨s, h1, h2, h3⟩ := hc j hj; ⟨s, h1, h2, h3.mono h⟩⟩
theorem RdO.slice {n₀ : Nat} {A : World} {sv : Value} {os : List Opt} : RdO n₀ A sv os → ∃ a cap, sv = .slice a os.length cap ∧ os.length ≤ cap ∧ cap ≤ 9223372036854775807
 | .inl ⟨a, cap, e, hz, hm, _⟩ => ⟨a, cap, by rw [e, hz]; rfl, by rw [hz]; exact Nat.zero_le _, hm⟩
 | .inr ⟨b, off, cap, e, _, hl, hm, _⟩ => ⟨_, cap, e, hl, hm⟩
theorem RdO.cells {n₀ : Nat} {W : World} {sv : Value} {os : List Opt} (h : RdO n₀ W sv os) (hne : 0 < os.length) : ∃ b off cap, sv = .slice (some ⟨b, off, none⟩) os.length cap ∧ os.length ≤ cap ∧ cap ≤ 9223372036854775807 ∧ b < n₀ ∧
  ∀ j, j < os.length → ∃ s, W.cell? ⟨b, off + j * 2, none⟩ = some (.int .u8 (os[j]?.getD (0, [])).1) ∧ W.cell? ⟨b, off + j * 2 + 1, none⟩ = some s ∧ Rd n₀ W s (os[j]?.getD (0, [])).2 := by
 rcases h with ⟨a, cap, _, rfl, _⟩ | ⟨b, off, cap, e, _, hl, hm, hb, hc⟩
 ·simp at hne
 ·exact ⟨b, off, cap, e, hl, hm, hb, hc⟩

section
variable {P : Program} {l : List Oper} {Q : Exit → Act → World → Prop} {fuel : Nat} {listed : Array Bool} {a : Act} {w : World} {R : World → World → Prop}
end
end Go.Proofs.YtghpakfjpdifaaaGreatDoor

/- A range over a function that hands over memory of its own: what it tells of an item holds in the world in which it yields it. -/
namespace Go.Proofs.YtghpakfjpdifaaaGreatDoor
open Go.RowKit Go.Shelf
set_option maxRecDepth 100000
set_option linter.unusedVariables false

/-- What the function does: it yields items, each with what X says of it there, and goes on while the body says so; J is whatever abides new memory. -/
def GenX {α : Type} (F : Fence) (n : Nat) (P : Program) (g : Nat) (lb : Array Value) (encs : α → Array Value) (Kp : World → World → Prop) (X : List α → α → World → Prop) (S Sp : List α → Prop) (w : World) : Prop :=
 ∀ (l : Nat) (J Jx : List α → World → Prop) (W : World), Below w.heap.size w W → (∀ s A B, J s A → Later A B → J s B) →
  (∀ pre x V, J pre V → X pre x V → YieldAt F (n - 1) P l (encs x) V fun e V' => (e = .returned (.bool true) ∧ J (pre ++ [x]) V' ∧ Kp V V') ∨ (e = .returned (.bool false) ∧ Jx (pre ++ [x]) V')) →
  J [] W → CallsIn F n P g (#[.func (.yield l) #[] #[]] ++ lb) W fun e W' => (∃ v, e = .returned v) ∧ ((∃ xs, S xs ∧ J xs W') ∨ ∃ pre, Sp pre ∧ Jx pre W')

/-- How a round's body is left: it goes on, or it returns. -/
def postX {α : Type} (B : Nat) (Kp : World → World → Prop) (I Ix : List α → World → Prop) (xs : List α) (W : World) : Exit → Act → World → Prop
 | .normal, _, V => KeepsFrom B W V ∧ Kp W V ∧ I xs V
 | .ret, _, V => KeepsFrom B W V ∧ Ix xs V
 | _, _, _ => False

theorem later_keep {A B : World} (h : Later A B) {k : Nat} {o : Obj} (ho : A.heap[k]? = some o) : B.heap[k]? = some o := (h.block k (Array.getElem?_eq_some_iff.1 ho).1).trans ho

theorem wpIn_rangeX {F : Fence} {n : Nat} {P : Program} {α : Type} {g : Operand} {ps : Array Tmp} {assign body : Code} {Q : Exit → Act → World → Prop} {a : Act} {w : World}
  (hro : F.round = none) (h1 : 1 ≤ n) {gf : Nat} {lb : Array Value} (hg : a.eval g = .func (.func gf) #[] lb) (hFg : F.fn gf) (eg : ∀ args w, (callFunc gf args).run P w = .ok (.enter gf args) w)
  {encs : α → Array Value} {Kp : World → World → Prop} {X : List α → α → World → Prop} {S Sp : List α → Prop} (hseq : GenX F (n - 1) P gf lb encs Kp X S Sp w)
  (hKt : ∀ {A B C : World}, Kp A B → Kp B C → Kp A C) (hKb : ∀ (W : World) (l : Nat) (o o' : Obj), w.heap.size ≤ l → W.heap[l]? = some o → o.isCells = false → o.isWalk = false → Kp W (W.putObj l o'))
  (hKl : ∀ {A B : World}, w.heap.size ≤ A.heap.size → Later A B → Kp A B) (hXl : ∀ pre x A B, X pre x A → Later A B → X pre x B)
  (hXb : ∀ pre x (W : World) (l : Nat) (o o' : Obj), w.heap.size ≤ l → W.heap[l]? = some o → o.isCells = false → X pre x W → X pre x (W.putObj l o')) (hps : ∀ x, (encs x).size = ps.size)
  (I Ix : List α → World → Prop) (hI : OwnFrom w.heap.size I) (hIl : ∀ s A B, I s A → Later A B → I s B) (hIx : OwnFrom w.heap.size Ix) (h0 : I [] w)
  (A : α → Act → World → Prop) (hA : ∀ x a' (W : World) (l : Nat) (o o' : Obj), w.heap.size ≤ l → W.heap[l]? = some o → o.isCells = false → A x a' W → A x a' (W.putObj l o'))
  (hassign : ∀ (l : Nat) (pre : List α) (x : α) (W : World) (K : Act → World → Prop), w.heap.size ≤ W.heap.size → I pre W → X pre x W → (∀ a' W', Later W W' → A x a' W' → K a' W') →
   assign.wpIn (F.inRound l) (n - 1 - 1) P (Exit.then K (fun _ _ _ => False)) { tmps := (ps.zip (encs x)).foldl (fun t (p, v) => t.setIfInBounds p v) a.tmps, defers := [] } W)
  (hbody : ∀ (l : Nat) (pre : List α) (x : α) (a' : Act) (W : World), I pre W → X pre x W → A x a' W → body.wpIn (F.inRound l) (n - 1 - 1) P (postX w.heap.size Kp I Ix (pre ++ [x]) W) a' W)
  (hdone : ∀ (D : Nat) (xs : List α) (W : World), w.heap.size ≤ D → S xs → I xs W → W.heap[D]? = some (.deferred (some [])) → Q .normal { a with defers := { target := .collected D, args := #[] } :: a.defers } W)
  (hstop : ∀ (D : Nat) (pre : List α) (W : World), w.heap.size ≤ D → Sp pre → Ix pre W → W.heap[D]? = some (.deferred (some [])) → Code.ret.wpIn F n P Q { a with defers := { target := .collected D, args := #[] } :: a.defers } W) :
  (Code.rangeFunc g ps assign body).wpIn F n P Q a w := by
 refine wpIn_rangeFunc fun fn hfn => ?_
 rw [hro]
 obtain ⟨rec, hrec⟩ : ∃ rec : LoopState → Option Code → Loop, rec = fun st pe => { state := st, pending := pe, fn, tmps := a.tmps, params := ps, assign, body, defers := w.heap.size } := ⟨_, rfl⟩
 obtain ⟨V, hV⟩ : ∃ V, (w.alloc (.deferred (some []))).alloc (.loop (rec .ready none)) = V := ⟨_, rfl⟩
 have hl : V.heap[w.heap.size + 1]? = some (.loop (rec .ready none)) := by
  have := World.alloc_heap_new (w.alloc (.deferred (some []))) (.loop (rec .ready none))
  rw [World.size_alloc] at this
  rw [← hV]
  exact this
 have hk : V.heap[w.heap.size]? = some (.deferred (some [])) := by
  rw [← hV]
  exact (Below.heap_alloc _ _ _ (by simp)).trans (World.alloc_heap_new w _)
 have hi : I [] V := by rw [← hV]; exact hI.alloc _ (hI.alloc _ h0)
 have hb : Below w.heap.size w V := by rw [← hV]; exact ((Below.refl _ w).alloc (Nat.le_refl _) _).alloc (by simp) _
 refine ⟨w.heap.size + 1, [{ target := .collected w.heap.size, args := #[] }], V, { target := .fn (.func gf) lb, args := #[.func (.yield (w.heap.size + 1)) #[] #[]] }, V, gf, #[.func (.yield (w.heap.size + 1)) #[] #[]] ++ lb, V, ?_, ?_, ?_, ?_, fun _ => h1, ?_⟩
 ·rw [← hV, hrec]; exact run_enterLoop_outer _ _ _ _ _
 ·simp only [resolve, hg]
  simp [go_sem]
 ·intro f' hf'; simp [Target.leads] at hf'; subst hf'; exact hFg
 ·simp [invoke, go_sem, eg]
 refine (hseq (w.heap.size + 1) (fun pre W => I pre W ∧ W.heap[w.heap.size + 1]? = some (.loop (rec .ready none)) ∧ W.heap[w.heap.size]? = some (.deferred (some [])))
  (fun pre W => Ix pre W ∧ W.heap[w.heap.size + 1]? = some (.loop (rec .done (some .ret))) ∧ W.heap[w.heap.size]? = some (.deferred (some []))) V hb
  (fun s A B hs h => ⟨hIl s A B hs.1 h, later_keep h hs.2.1, later_keep h hs.2.2⟩) ?_ ⟨hi, hl, hk⟩).mono ?_
 ·rintro pre x W ⟨ji, jl, jk⟩ hx
  have hlt : w.heap.size + 1 < W.heap.size := (Array.getElem?_eq_some_iff.1 jl).1
  have hy := run_yield (P := P) (args := encs x) jl (by rw [hrec]; exact hps x)
  rw [hrec] at hy
  refine ⟨fn, _, assign, body, hy, roundIn_of_wpIn hfn (hassign _ pre x W _ (by omega) ji hx fun a' W' hL hAx => ?_)⟩
  have pL : Kp W W' := hKl (by omega) hL
  replace ji := hIl _ _ _ ji hL
  replace jl := later_keep hL jl
  replace jk := later_keep hL jk
  replace hx := hXl _ _ _ _ hx hL
  replace hlt : w.heap.size + 1 < W'.heap.size := (Array.getElem?_eq_some_iff.1 jl).1
  refine ⟨_, run_beginRound jl (by rw [hrec]), ?_⟩
  obtain ⟨U, hU⟩ : ∃ U, W'.putObj (w.heap.size + 1) (.loop { rec .ready none with state := .busy }) = U := ⟨_, rfl⟩
  have l2 : U.heap[w.heap.size + 1]? = some (.loop { rec .ready none with state := .busy }) := by rw [← hU]; exact World.putObj_heap_same hlt
  have k2 : U.heap[w.heap.size]? = some (.deferred (some [])) := by rw [← hU]; exact (World.putObj_heap_other (by omega)).trans jk
  have p2 : Kp W U := by rw [← hU]; exact hKt pL (hKb _ _ _ _ (by omega) jl rfl rfl)
  have a2 : A x a' U := by rw [← hU]; exact hA _ _ _ _ _ _ (by omega) jl rfl hAx
  have i2 : I pre U := by rw [← hU]; exact hI.putObj _ ji (by omega) jl rfl
  have x2 : X pre x U := by rw [← hU]; exact hXb _ _ _ _ _ _ (by omega) jl rfl hx
  rw [hU]
  refine wpIn_mono (hbody _ pre x a' U i2 x2 a2) ?_
  have fin : ∀ (jump : Option Code) (Z : World), KeepsFrom w.heap.size U Z →
    (Instr.endRound (w.heap.size + 1) jump).run P Z = .ok (.bool jump.isNone) (Z.putObj (w.heap.size + 1) (.loop (rec (if jump.isNone then .ready else .done) jump))) ∧ Z.heap[w.heap.size + 1]? = some (.loop { rec .ready none with state := .busy }) ∧
    (Z.putObj (w.heap.size + 1) (.loop (rec (if jump.isNone then .ready else .done) jump))).heap[w.heap.size + 1]? = some (.loop (rec (if jump.isNone then .ready else .done) jump)) ∧
    (Z.putObj (w.heap.size + 1) (.loop (rec (if jump.isNone then .ready else .done) jump))).heap[w.heap.size]? = some (.deferred (some [])) := fun jump Z hZ => by
   have l3 := hZ.same _ _ (by omega) l2 rfl
   have r3 := run_endRound (P := P) jump l3
   rw [hrec] at r3 ⊢
   exact ⟨r3, by rw [hrec] at l3; exact l3, World.putObj_heap_same (Array.getElem?_eq_some_iff.1 l3).1, (World.putObj_heap_other (by omega)).trans (hZ.same _ _ (Nat.le_refl _) k2 rfl)⟩
  rintro e a3 Z hp
  cases e with
  | normal =>
   obtain ⟨hZ, hp3, hi3⟩ := hp
   obtain ⟨hr, l3, l4, k4⟩ := fin none Z hZ
   exact ⟨_, _, hr, .inl ⟨rfl, ⟨hI.putObj _ hi3 (by omega) l3 rfl, l4, k4⟩, hKt (hKt p2 hp3) (hKb _ _ _ _ (by omega) l3 rfl rfl)⟩⟩
  | ret =>
   obtain ⟨hZ, hi3⟩ := hp
   obtain ⟨hr, l3, l4, k4⟩ := fin (some .ret) Z hZ
   exact ⟨_, _, hr, .inr ⟨rfl, hIx.putObj _ hi3 (by omega) l3 rfl, l4, k4⟩⟩
  | exit id => exact hp.elim
  | goto t => exact hp.elim
  | panic ch => exact hp.elim
  | outgrown => exact hp.elim
 ·rintro e W2 ⟨⟨v, rfl⟩, (⟨xs, hS, ji, jl, jk⟩ | ⟨pre, hSp, ji, jl, jk⟩)⟩
  ·exact ⟨none, _, by have := run_endLoop (P := P) jl (by rw [hrec]; simp); rw [hrec] at this; exact this, hdone _ xs _ (Nat.le_refl _) hS (hI.putObj _ ji (by omega) jl rfl) ((World.putObj_heap_other (by omega)).trans jk)⟩
  ·exact ⟨some .ret, _, by have := run_endLoop (P := P) jl (by rw [hrec]; simp); rw [hrec] at this; exact this, hstop _ pre _ (Nat.le_refl _) hSp (hIx.putObj _ ji (by omega) jl rfl) ((World.putObj_heap_other (by omega)).trans jk)⟩
end Go.Proofs.YtghpakfjpdifaaaGreatDoor

/- Package segs: the bytes of options. -/
namespace Go.Proofs.YtghpakfjpdifaaaGreatDoor
open Go.RowKit Go.Shelf
set_option maxRecDepth 100000
set_option linter.unusedVariables false
set_option linter.unusedSimpArgs false

theorem HSt.below {tl : List Value} {t : TypeId} {ub : Nat} {N : Nat → Prop} {ys : List Int} {W W' : World} (h : HSt tl t ub N ys W) (l : Later W W') : HSt tl t ub N ys W' := by
 obtain ⟨v, h1, h2, h3⟩ := h
 refine ⟨v, (l.block ub (Array.getElem?_eq_some_iff.1 h1).1).trans h1, ⟨h2.1, h2.2.imp id ?_⟩, h3⟩
 rintro ⟨g, cap, cur, e, hg, hh, r⟩
 exact ⟨g, cap, cur, e, hg, (l.block g (Array.getElem?_eq_some_iff.1 hh).1).trans hh, r⟩
theorem HSt.cell {tl : List Value} {t : TypeId} {ub : Nat} {N : Nat → Prop} {ys : List Int} {W : World} (h : HSt tl t ub N ys W) : ∃ a c, W.cell? ⟨ub, 0, none⟩ = some (.slice a ys.length c) ∧ Ow (ub + 1) W (.slice a ys.length c) ys ∧ ys.length ≤ c := by
 obtain ⟨v, h1, h2, h3⟩ := h
 have hO := Ow.of_row h2
 obtain ⟨a, c, rfl, hc, _⟩ := hO.slice
 exact ⟨a, c, by have := block_cell h1 0; simpa using this, hO, hc⟩

end Go.Proofs.YtghpakfjpdifaaaGreatDoor

/- Package segs: the packet with a segment. -/
namespace Go.Proofs.YtghpakfjpdifaaaGreatDoor
open Go.RowKit Go.Shelf
set_option maxRecDepth 100000
set_option linter.unusedVariables false
set_option linter.unusedSimpArgs false

end Go.Proofs.YtghpakfjpdifaaaGreatDoor
