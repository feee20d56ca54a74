/- Several texts in one. -/
import Derived.Test.YtghpakfjpdifaaaGreatDoorKN
import Derived.Test.YtghpakfjpdifaaaGreatDoorSB
import Derived.Test.YtghpakfjpdifaaaGreatDoorRg
import Derived.Test.YtghpakfjpdifaaaGreatDoorSE
import Derived.RangeFuncNested
import Derived.Test.YtghpakfjpdifaaaGreatDoorV5
import Derived.Test.YtghpakfjpdifaaaGreatDoorRk
import Derived.ScopeJumps
/- Layer 5: Of, of any packet whose protocol has a reader; of one that has none. -/
namespace Go.Proofs.YtghpakfjpdifaaaGreatDoor
open Go.RowKit Go.Shelf
set_option maxRecDepth 100000
set_option linter.unusedVariables false
set_option linter.unusedSimpArgs false

theorem otv_ok (proto src dst a b : Int) : otv 0 proto src dst a b = .agg #[.int .u8 proto, .int .u32 src, .int .u32 dst, .int .u16 a, .int .u16 b] := rfl
theorem otv_no {e0 : Int} (h : e0 ≠ 0) (proto src dst a b : Int) : otv e0 proto src dst a b = .agg #[.int .u8 0, .int .u32 0, .int .u32 0, .int .u16 0, .int .u16 0] := if_neg h

set_option maxHeartbeats 4000000 in
theorem of_gen (pr x y e0 : Int) (fw fb : FuncId) (tos id ttl src dst : Int) (keep : Bool) (so : Value) (ad : Option Addr) (ld cd : Nat) (w : World)
  (hlk0 : ∀ (w : World) (b : Nat), w.heap[b]? = some (.map rdE 4) → (Instr.lookup 88 (.map (some b)) (.int .u8 pr) true).run Tryz.prog w = .ok (.tuple #[.agg #[.func (.func fw) #[] #[], .func (.func fb) #[] #[]], .bool true]) w)
  (hcf : ∀ (args : Array Value) (w : World), (callFunc fw args).run Tryz.prog w = .ok (.enter fw args) w)
  (hf : ∀ w', Below w.heap.size w w' → Calls Tryz.prog fw #[.agg #[.int .u8 tos, .int .u16 id, .bool keep, .int .u8 ttl, .int .u8 pr, .int .u32 src, .int .u32 dst, so, .slice ad ld cd]] w' fun e w'' => Below w'.heap.size w' w'' ∧ ∃ a b : Int, e = .returned (.tuple #[.agg #[.int .u16 a, .int .u16 b], .int .i64 e0]) ∧ (e0 = 0 → a = x ∧ b = y)) :
  Calls Tryz.prog 70 #[.agg #[.int .u8 tos, .int .u16 id, .bool keep, .int .u8 ttl, .int .u8 pr, .int .u32 src, .int .u32 dst, so, .slice ad ld cd]] w fun e w' => Below w.heap.size w w' ∧ e = .returned (.tuple #[otv e0 pr src dst x y, .int .i64 e0]) := by
 have hb0 : Below w.heap.size w ((w.alloc (.cells #[.int .u8 tos, .int .u16 id, .bool keep, .int .u8 ttl, .int .u8 pr, .int .u32 src, .int .u32 dst, so, .slice ad ld cd] 26)).alloc (.cells #[.int .u8 0, .int .u32 0, .int .u32 0, .int .u16 0, .int .u16 0] 29)) := ((Below.refl _ _).alloc (Nat.le_refl _) _).alloc (by simp) _
 have p0 : ((w.alloc (.cells #[.int .u8 tos, .int .u16 id, .bool keep, .int .u8 ttl, .int .u8 pr, .int .u32 src, .int .u32 dst, so, .slice ad ld cd] 26)).alloc (.cells #[.int .u8 0, .int .u32 0, .int .u32 0, .int .u16 0, .int .u16 0] 29)).heap[w.heap.size]? = some (.cells #[.int .u8 tos, .int .u16 id, .bool keep, .int .u8 ttl, .int .u8 pr, .int .u32 src, .int .u32 dst, so, .slice ad ld cd] 26) := (Below.heap_alloc _ _ _ (by simp)).trans (heap_alloc_new w _)
 have r0 := heap_alloc_new (w.alloc (.cells #[.int .u8 tos, .int .u16 id, .bool keep, .int .u8 ttl, .int .u8 pr, .int .u32 src, .int .u32 dst, so, .slice ad ld cd] 26)) (.cells #[.int .u8 0, .int .u32 0, .int .u32 0, .int .u16 0, .int .u16 0] 29)
 rw [World.size_alloc] at r0
 have hs0 : ((w.alloc (.cells #[.int .u8 tos, .int .u16 id, .bool keep, .int .u8 ttl, .int .u8 pr, .int .u32 src, .int .u32 dst, so, .slice ad ld cd] 26)).alloc (.cells #[.int .u8 0, .int .u32 0, .int .u32 0, .int .u16 0, .int .u16 0] 29)).heap.size = w.heap.size + 2 := by simp
 have HS0 := hide hs0
 have P0 := hide p0
 have R0 := hide r0
 clear r0 hs0 p0
 go_enter Tryz.func70, Tryz.ntmps70
 go_upto_region 1 with fail
 generalize (w.alloc (.cells #[.int .u8 tos, .int .u16 id, .bool keep, .int .u8 ttl, .int .u8 pr, .int .u32 src, .int .u32 dst, so, .slice ad ld cd] 26)).alloc (.cells #[.int .u8 0, .int .u32 0, .int .u32 0, .int .u16 0, .int .u16 0] 29) = w0 at *
 have hlt0 : w.heap.size + 1 < w0.heap.size := by have := HS0.out; omega
 have p0 := P0.out
 go_cut [4, 5] (fun q x wx => ∃ g, q = .pointer (some ⟨g, 0, none⟩) ∧ x = .bool true ∧ wx.heap[g]? = some (.cells #[.func (.func fw) #[] #[], .func (.func fb) #[] #[]] 86 (0, 0)) ∧ Below w0.heap.size w0 wx)
 case first =>
  refine anyT_begin (R := But (fun b => w0.heap.size ≤ b)) 10 rfl (by kernel_rfl) ?_
  have hd : Later w0 w0.drew := Later.drew w0
  have pd := (hd.block w.heap.size (bl9 p0)).trans p0
  have bd : Below w0.heap.size w0 w0.drew := hd
  generalize w0.drew = Wd at *
  have ha : ∀ v1, But (fun b => w0.heap.size ≤ b) Wd v1 → ∀ i, v1.cell? ⟨w.heap.size, i, none⟩ = #[Value.int .u8 tos, .int .u16 id, .bool keep, .int .u8 ttl, .int .u8 pr, .int .u32 src, .int .u32 dst, so, .slice ad ld cd][i]? := fun v1 h => block_cell ((h.block w.heap.size (bl9 pd) (by omega)).trans pd)
  have hz : w0.heap.size ≤ Wd.heap.size := bd.size
  refine tV (But.pre _) 1 rfl rfl ?_; apply Exists.intro; refine ⟨fun v1 hv1 => ?_, ?_⟩; (· (go_simp; rfl)); simp only [Act.put, sA, sB, sC]
  refine tV (But.pre _) 2 rfl rfl ?_; apply Exists.intro; refine ⟨fun v1 hv1 => ?_, ?_⟩; (· (go_simp; rfl)); simp only [Act.put, sA, sB, sC]
  refine anyT_two 0 7 rfl rfl (by kernel_rfl) rfl rfl ?_ ?_
  ·skip
   refine wp_enter 46 #[] (by go_simp) ?_
   refine (readers_any Wd).mono ?_
   rintro e W3 ⟨m, rfl, hb3, hM3⟩
   have l3 : Later Wd W3 := hb3
   refine ⟨But.of l3, ?_⟩
   simp only [Act.put, sA, sB, sC]
   have hlk := hlk0 _ _ hM3
   refine anyT_two 3 7 rfl rfl (by kernel_rfl) rfl rfl ?_ ?_
   ·unfold Oper.wp
    go_simp
    refine ⟨But.refl _ _, ?_⟩
    clear hlk
    refine tV (But.pre _) 4 rfl rfl ?_; apply Exists.intro; refine ⟨fun v1 hv1 => ?_, ?_⟩; (· (go_simp; rfl)); simp only [Act.put, sA, sB, sC]
    refine tV (But.pre _) 5 rfl rfl ?_; apply Exists.intro; refine ⟨fun v1 hv1 => ?_, ?_⟩; (· (go_simp; rfl)); simp only [Act.put, sA, sB, sC]
    refine tV (But.pre _) 6 rfl rfl ?_; apply Exists.intro; refine ⟨fun v1 hv1 => ?_, ?_⟩; (· (go_simp; rfl)); simp only [Act.put, sA, sB, sC]
    refine anyT_one 7 rfl (by kernel_rfl) rfl ?_
    unfold Oper.wp
    go_simp
    have l4 : Later W3 (W3.alloc (.cells #[.nilFunc, .nilFunc] 86)) := (Below.refl _ _).alloc (Nat.le_refl _) _
    have g4 := heap_alloc_new W3 (.cells #[.nilFunc, .nilFunc] 86)
    have b4 : Below w0.heap.size w0 (W3.alloc (.cells #[.nilFunc, .nilFunc] 86)) := (bd.trans (l3.mono hz)).trans (l4.mono (Nat.le_trans hz l3.size))
    have hge : w0.heap.size ≤ W3.heap.size := Nat.le_trans hz l3.size
    refine ⟨But.of l4, ?_⟩
    generalize W3.alloc (.cells #[.nilFunc, .nilFunc] 86) = W4 at *
    generalize W3.heap.size = g at *
    have kg := block_cell g4
    have fg := block_frozen g4
    have hsf := run_store_fn Tryz.prog
    refine anyT_one 8 rfl (by kernel_rfl) rfl ?_
    unfold Oper.wp
    go_simp
    generalize hV : (W4.setCell ⟨g, 0, none⟩ _).setCell ⟨g, 1, none⟩ _ = V
    have hV8 : V = putRow W4 (g) 0 [.func (.func fw) #[] #[], .func (.func fb) #[] #[]] := hV.symm
    have hbV : But (fun b => w0.heap.size ≤ b) W4 V := by rw [hV8]; exact putRow_but (E := fun b => w0.heap.size ≤ b) (n := g) hge _ _ _ _ (But.refl _ _)
    have pV := putRow_all [Value.func (.func fw) #[] #[], .func (.func fb) #[] #[]] g4 rfl
    rw [← hV8] at pV
    clear hV hV8 kg fg hsf
    refine ⟨hbV, ?_⟩
    refine anyT_one 9 rfl (by kernel_rfl) rfl ?_
    unfold Oper.wp
    go_simp
    refine ⟨But.refl _ _, ?_⟩
    refine anyT_done (by kernel_rfl) ?_
    have hbl : Below w0.heap.size w0 V := b4.trans (hbV.below b4.size (fun k hk e => by omega))
    clear ha
    go_wp2_with fail
    go_meet
    exact ⟨_, rfl, rfl, pV, hbl⟩
   ·unfold Oper.wp
    go_simp
    have l4 : Later W3 (W3.alloc (.cells #[.nilFunc, .nilFunc] 86)) := (Below.refl _ _).alloc (Nat.le_refl _) _
    have g4 := heap_alloc_new W3 (.cells #[.nilFunc, .nilFunc] 86)
    have b4 : Below w0.heap.size w0 (W3.alloc (.cells #[.nilFunc, .nilFunc] 86)) := (bd.trans (l3.mono hz)).trans (l4.mono (Nat.le_trans hz l3.size))
    have hge : w0.heap.size ≤ W3.heap.size := Nat.le_trans hz l3.size
    have hM4 := (l4.block m (bl9 hM3)).trans hM3
    refine ⟨But.of l4, ?_⟩
    clear hlk
    generalize W3.alloc (.cells #[.nilFunc, .nilFunc] 86) = W4 at *
    generalize W3.heap.size = g at *
    have hlk := hlk0 _ _ hM4
    refine anyT_one 3 rfl (by kernel_rfl) rfl ?_
    unfold Oper.wp
    go_simp
    refine ⟨But.refl _ _, ?_⟩
    clear hlk
    refine tV (But.pre _) 4 rfl rfl ?_; apply Exists.intro; refine ⟨fun v1 hv1 => ?_, ?_⟩; (· (go_simp; rfl)); simp only [Act.put, sA, sB, sC]
    refine tV (But.pre _) 5 rfl rfl ?_; apply Exists.intro; refine ⟨fun v1 hv1 => ?_, ?_⟩; (· (go_simp; rfl)); simp only [Act.put, sA, sB, sC]
    refine tV (But.pre _) 6 rfl rfl ?_; apply Exists.intro; refine ⟨fun v1 hv1 => ?_, ?_⟩; (· (go_simp; rfl)); simp only [Act.put, sA, sB, sC]
    have kg := block_cell g4
    have fg := block_frozen g4
    have hsf := run_store_fn Tryz.prog
    refine anyT_one 8 rfl (by kernel_rfl) rfl ?_
    unfold Oper.wp
    go_simp
    generalize hV : (W4.setCell ⟨g, 0, none⟩ _).setCell ⟨g, 1, none⟩ _ = V
    have hV8 : V = putRow W4 (g) 0 [.func (.func fw) #[] #[], .func (.func fb) #[] #[]] := hV.symm
    have hbV : But (fun b => w0.heap.size ≤ b) W4 V := by rw [hV8]; exact putRow_but (E := fun b => w0.heap.size ≤ b) (n := g) hge _ _ _ _ (But.refl _ _)
    have pV := putRow_all [Value.func (.func fw) #[] #[], .func (.func fb) #[] #[]] g4 rfl
    rw [← hV8] at pV
    clear hV hV8 kg fg hsf
    refine ⟨hbV, ?_⟩
    refine anyT_one 9 rfl (by kernel_rfl) rfl ?_
    unfold Oper.wp
    go_simp
    refine ⟨But.refl _ _, ?_⟩
    refine anyT_done (by kernel_rfl) ?_
    have hbl : Below w0.heap.size w0 V := b4.trans (hbV.below b4.size (fun k hk e => by omega))
    clear ha
    go_wp2_with fail
    go_meet
    exact ⟨_, rfl, rfl, pV, hbl⟩
  ·unfold Oper.wp
   go_simp
   have l4 : Later Wd (Wd.alloc (.cells #[.nilFunc, .nilFunc] 86)) := (Below.refl _ _).alloc (Nat.le_refl _) _
   have g4 := heap_alloc_new Wd (.cells #[.nilFunc, .nilFunc] 86)
   have b4 : Below w0.heap.size w0 (Wd.alloc (.cells #[.nilFunc, .nilFunc] 86)) := bd.trans (l4.mono hz)
   refine ⟨But.of l4, ?_⟩
   have hge : w0.heap.size ≤ Wd.heap.size := hz
   generalize Wd.alloc (.cells #[.nilFunc, .nilFunc] 86) = W4 at *
   generalize Wd.heap.size = g at *
   refine anyT_one 0 rfl (by kernel_rfl) rfl ?_
   refine wp_enter 46 #[] (by go_simp) ?_
   refine (readers_any W4).mono ?_
   rintro e W5 ⟨m, rfl, hb5, hM5⟩
   have l5 : Later W4 W5 := hb5
   have g5 := (l5.block g (bl9 g4)).trans g4
   have b5 : Below w0.heap.size w0 W5 := b4.trans (l5.mono b4.size)
   refine ⟨But.of l5, ?_⟩
   simp only [Act.put, sA, sB, sC]
   have hlk := hlk0 _ _ hM5
   refine anyT_one 3 rfl (by kernel_rfl) rfl ?_
   unfold Oper.wp
   go_simp
   refine ⟨But.refl _ _, ?_⟩
   clear hlk
   refine tV (But.pre _) 4 rfl rfl ?_; apply Exists.intro; refine ⟨fun v1 hv1 => ?_, ?_⟩; (· (go_simp; rfl)); simp only [Act.put, sA, sB, sC]
   refine tV (But.pre _) 5 rfl rfl ?_; apply Exists.intro; refine ⟨fun v1 hv1 => ?_, ?_⟩; (· (go_simp; rfl)); simp only [Act.put, sA, sB, sC]
   refine tV (But.pre _) 6 rfl rfl ?_; apply Exists.intro; refine ⟨fun v1 hv1 => ?_, ?_⟩; (· (go_simp; rfl)); simp only [Act.put, sA, sB, sC]
   have kg := block_cell g5
   have fg := block_frozen g5
   have hsf := run_store_fn Tryz.prog
   refine anyT_one 8 rfl (by kernel_rfl) rfl ?_
   unfold Oper.wp
   go_simp
   generalize hV : (W5.setCell ⟨g, 0, none⟩ _).setCell ⟨g, 1, none⟩ _ = V
   have hV8 : V = putRow W5 (g) 0 [.func (.func fw) #[] #[], .func (.func fb) #[] #[]] := hV.symm
   have hbV : But (fun b => w0.heap.size ≤ b) W5 V := by rw [hV8]; exact putRow_but (E := fun b => w0.heap.size ≤ b) (n := g) hge _ _ _ _ (But.refl _ _)
   have pV := putRow_all [Value.func (.func fw) #[] #[], .func (.func fb) #[] #[]] g5 rfl
   rw [← hV8] at pV
   clear hV hV8 kg fg hsf
   refine ⟨hbV, ?_⟩
   refine anyT_one 9 rfl (by kernel_rfl) rfl ?_
   unfold Oper.wp
   go_simp
   refine ⟨But.refl _ _, ?_⟩
   refine anyT_done (by kernel_rfl) ?_
   have hbl : Below w0.heap.size w0 V := b5.trans (hbV.below b5.size (fun k hk e => by omega))
   clear ha
   go_wp2_with fail
   go_meet
   exact ⟨_, rfl, rfl, pV, hbl⟩
 case rest =>
  obtain ⟨g, rfl, rfl, hg, hbc⟩ := hcut
  have pc := (hbc.block w.heap.size (bl9 p0)).trans p0
  have rc := (hbc.block _ (bl9 R0.out)).trans R0.out
  have hwc := hb0.trans (hbc.mono hb0.size)
  have kg := block_cell hg
  have kp := block_cell pc
  go_wp2_with fail
  refine (hf wc hwc).mono ?_
  rintro e w5 ⟨hb5, u, v, rfl, hab⟩
  have HAB := hide hab
  clear hab
  have l6 : Later w5 (w5.alloc (.cells #[.int .u16 u, .int .u16 v] 91)) := (Below.refl _ _).alloc (Nat.le_refl _) _
  have l56 := Later.trans hb5 l6
  have p6 := (l56.block w.heap.size (bl9 pc)).trans pc
  have r6 := (l56.block _ (bl9 rc)).trans rc
  have hw6 := hwc.trans (l56.mono hwc.size)
  clear kg kp
  have kp := block_cell p6
  go_wp2_with fail
  generalize w5.alloc (.cells #[.int .u16 u, .int .u16 v] 91) = w6 at *
  refine (told_any tos id ttl pr src dst u v e0 keep so _ w6).mono ?_
  rintro e w7 ⟨hb7, ⟨hx, rfl⟩ | ⟨hx, rfl⟩⟩
  ·have HX := hide hx
   clear hx
   have r7 := (Below.block hb7 _ (bl9 r6)).trans r6
   have hw7 := hw6.trans (hb7.mono hw6.size)
   have k7 := block_cell r7
   have f7 := block_frozen r7
   clear kp
   go_wp2_with fail
   generalize hV : ((((w7.setCell ⟨w.heap.size + 1, 0, none⟩ _).setCell ⟨w.heap.size + 1, 1, none⟩ _).setCell ⟨w.heap.size + 1, 2, none⟩ _).setCell ⟨w.heap.size + 1, 3, none⟩ _).setCell ⟨w.heap.size + 1, 4, none⟩ _ = V
   have hV8 : V = putRow w7 (w.heap.size + 1) 0 [.int .u8 0, .int .u32 0, .int .u32 0, .int .u16 0, .int .u16 0] := hV.symm
   have hbV : But (fun b => b = w.heap.size + 1) w7 V := by rw [hV8]; exact putRow_but (E := fun b => b = w.heap.size + 1) (n := w.heap.size + 1) rfl _ _ _ _ (But.refl _ _)
   have pV := putRow_all ([.int .u8 0, .int .u32 0, .int .u32 0, .int .u16 0, .int .u16 0] : List Value) r7 rfl
   rw [← hV8] at pV
   clear hV hV8 k7 f7
   have PV := block_cell pV
   have hwV : Below w.heap.size w V := hw7.trans (hbV.below hw7.size (fun k hk e => by omega))
   exact bodyPost_ret (v := .tuple #[.agg #[.int .u8 0, .int .u32 0, .int .u32 0, .int .u16 0, .int .u16 0], .int .i64 e0]) (by simp [results, Tryz.results70, go_sem, PV]) rfl ⟨hwV, by rw [otv_no HX.out]⟩
  ·subst hx
   obtain ⟨rfl, rfl⟩ := HAB.out rfl
   have r7 := (Below.block hb7 _ (bl9 r6)).trans r6
   have hw7 := hw6.trans (hb7.mono hw6.size)
   have k7 := block_cell r7
   have f7 := block_frozen r7
   clear kp
   go_wp2_with fail
   generalize hV : ((((w7.setCell ⟨w.heap.size + 1, 0, none⟩ _).setCell ⟨w.heap.size + 1, 1, none⟩ _).setCell ⟨w.heap.size + 1, 2, none⟩ _).setCell ⟨w.heap.size + 1, 3, none⟩ _).setCell ⟨w.heap.size + 1, 4, none⟩ _ = V
   have hV8 : V = putRow w7 (w.heap.size + 1) 0 [.int .u8 pr, .int .u32 src, .int .u32 dst, .int .u16 u, .int .u16 v] := hV.symm
   have hbV : But (fun b => b = w.heap.size + 1) w7 V := by rw [hV8]; exact putRow_but (E := fun b => b = w.heap.size + 1) (n := w.heap.size + 1) rfl _ _ _ _ (But.refl _ _)
   have pV := putRow_all ([.int .u8 pr, .int .u32 src, .int .u32 dst, .int .u16 u, .int .u16 v] : List Value) r7 rfl
   rw [← hV8] at pV
   clear hV hV8 k7 f7
   have PV := block_cell pV
   have hwV : Below w.heap.size w V := hw7.trans (hbV.below hw7.size (fun k hk e => by omega))
   exact bodyPost_ret (v := .tuple #[.agg #[.int .u8 pr, .int .u32 src, .int .u32 dst, .int .u16 u, .int .u16 v], .int .i64 0]) (by simp [results, Tryz.results70, go_sem, PV]) rfl ⟨hwV, rfl⟩

theorem cf_tcp (args : Array Value) (w : World) : (callFunc 76 args).run Tryz.prog w = .ok (.enter 76 args) w := by kernel_rfl

theorem cf_udp (args : Array Value) (w : World) : (callFunc 78 args).run Tryz.prog w = .ok (.enter 78 args) w := by kernel_rfl

theorem cf_icmp (args : Array Value) (w : World) : (callFunc 79 args).run Tryz.prog w = .ok (.enter 79 args) w := by kernel_rfl

theorem cf_gre (args : Array Value) (w : World) : (callFunc 81 args).run Tryz.prog w = .ok (.enter 81 args) w := by kernel_rfl
end Go.Proofs.YtghpakfjpdifaaaGreatDoor

/- Options of a segment: the mathematics of their bytes. -/
namespace Go.Proofs.YtghpakfjpdifaaaGreatDoor
set_option maxRecDepth 100000
set_option linter.unusedVariables false
set_option linter.unusedSimpArgs false

/-- An option: its kind and its data. -/
abbrev Opt := Int × List Int
def ByO (os : List Opt) : Prop := ∀ o ∈ os, (0 ≤ o.1 ∧ o.1 ≤ 255) ∧ Mt.By o.2
def ob1 (o : Opt) : List Int := if o.1 = 1 then [1] else o.1 :: (2 + (o.2.length : Int)) :: o.2
def okO (o : Opt) : Prop := o.1 ≠ 0 ∧ (o.1 = 1 → o.2 = [])
instance (o : Opt) : Decidable (okO o) := by unfold okO; exact inferInstance
def osz (o : Opt) : Nat := if o.1 = 1 then 1 else 2 + o.2.length
theorem ob1_length (o : Opt) : (ob1 o).length = osz o := by unfold ob1 osz; split <;> simp; omega
def obs (os : List Opt) : List Int := os.flatMap ob1
theorem obs_nil : obs [] = [] := rfl
theorem obs_cons (o : Opt) (r : List Opt) : obs (o :: r) = ob1 o ++ obs r := by simp [obs]
theorem obs_app (l r : List Opt) : obs (l ++ r) = obs l ++ obs r := by simp [obs]
def obOk (os : List Opt) : Prop := (∀ o ∈ os, okO o) ∧ (obs os).length ≤ 40
instance (os : List Opt) : Decidable (obOk os) := by unfold obOk; exact inferInstance
/-- Filled up to whole words. -/
def padn (n : Nat) : Nat := (4 - n % 4) % 4
def pad (l : List Int) : List Int := l ++ List.replicate (padn l.length) 0
theorem pad_length (l : List Int) : (pad l).length = l.length + padn l.length := by simp [pad]
theorem pad_mod (l : List Int) : (pad l).length % 4 = 0 := by rw [pad_length]; unfold padn; omega
theorem pad_le (l : List Int) (h : l.length ≤ 40) : (pad l).length ≤ 40 := by rw [pad_length]; unfold padn; omega
theorem By_rep (n : Nat) : Mt.By (List.replicate n 0) := by
 induction n with
 | zero => exact Mt.By.nil
 | succ n ih => rw [List.replicate_succ]; exact .mk (by omega) ih
theorem By_ob1 (o : Opt) (h : (0 ≤ o.1 ∧ o.1 ≤ 255) ∧ Mt.By o.2) (hl : osz o ≤ 40) : Mt.By (ob1 o) := by
 unfold osz at hl
 unfold ob1
 split
 ·exact .mk (by omega) .nil
 ·rw [if_neg (by assumption)] at hl
  exact .mk h.1 (.mk (by omega) h.2)
theorem By_obs : ∀ os : List Opt, ByO os → (obs os).length ≤ 40 → Mt.By (obs os)
 | [], _, _ => Mt.By.nil
 | o :: r, h, hl => by
  rw [obs_cons] at hl ⊢
  rw [List.length_append, ob1_length] at hl
  exact (By_ob1 o (h o (by simp)) (by omega)).append (By_obs r (fun x hx => h x (by simp [hx])) (by omega))
theorem By_pad (l : List Int) (h : Mt.By l) : Mt.By (pad l) := h.append (By_rep _)

/-- Bytes as options; none: they are wrong. -/
def po : Nat → List Int → Option (List Opt)
 | 0, _ => none
 | _ + 1, [] => some []
 | n + 1, k :: r =>
  if k = 0 then (if ∀ x ∈ r, x = 0 then some [] else none)
  else if k = 1 then (po n r).map ((1, []) :: ·)
  else match r with
   | [] => none
   | s :: r' => if s < 2 ∨ (r'.length : Int) + 2 < s then none else (po n (r'.drop (s.toNat - 2))).map ((k, r'.take (s.toNat - 2)) :: ·)
theorem po_fuel : ∀ (n m : Nat) (l : List Int), l.length < n → l.length < m → po n l = po m l
 | 0, _, _, h, _ => by omega
 | _ + 1, 0, _, _, h => by omega
 | n + 1, m + 1, [], _, _ => rfl
 | n + 1, m + 1, k :: r, h, h' => by
  simp at h h'
  unfold po
  split
  ·rfl
  split
  ·rw [po_fuel n m r (by omega) (by omega)]
  cases r with
  | nil => rfl
  | cons s r' =>
   dsimp only
   split
   ·rfl
   ·rw [po_fuel n m (r'.drop (s.toNat - 2)) (by simp at h ⊢; omega) (by simp at h' ⊢; omega)]
def opts (zs : List Int) : Option (List Opt) := po (zs.length + 1) zs
theorem opts_nil : opts [] = some [] := rfl
theorem opts_zero (r : List Int) : opts (0 :: r) = if ∀ x ∈ r, x = 0 then some [] else none := by unfold opts po; rw [if_pos rfl]
theorem opts_one (r : List Int) : opts (1 :: r) = (opts r).map ((1, []) :: ·) := by
 show po ((r.length + 1) + 1) (1 :: r) = _
 unfold opts
 conv => lhs; unfold po
 rw [if_neg (by decide), if_pos rfl]
theorem opts_bare (k : Int) (h0 : k ≠ 0) (h1 : k ≠ 1) : opts [k] = none := by unfold opts po; rw [if_neg h0, if_neg h1]
theorem opts_wrong (k s : Int) (r : List Int) (h0 : k ≠ 0) (h1 : k ≠ 1) (h : s < 2 ∨ (r.length : Int) + 2 < s) : opts (k :: s :: r) = none := by
 unfold opts po; rw [if_neg h0, if_neg h1]; simp only; rw [if_pos h]
theorem opts_more (k s : Int) (r : List Int) (h0 : k ≠ 0) (h1 : k ≠ 1) (h : 2 ≤ s) (h' : s ≤ (r.length : Int) + 2) : opts (k :: s :: r) = (opts (r.drop (s.toNat - 2))).map ((k, r.take (s.toNat - 2)) :: ·) := by
 show po ((k :: s :: r).length + 1) (k :: s :: r) = _
 unfold opts
 conv => lhs; unfold po
 rw [if_neg h0, if_neg h1]
 simp only
 rw [if_neg (by omega), po_fuel _ ((r.drop (s.toNat - 2)).length + 1) (r.drop (s.toNat - 2)) (by simp; omega) (by omega)]

theorem opts_rep (n : Nat) : opts (List.replicate n 0) = some [] := by
 cases n with
 | zero => rfl
 | succ n => rw [List.replicate_succ, opts_zero, if_pos (fun x hx => (List.mem_replicate.1 hx).2)]
theorem opts_obs (m : Nat) : ∀ os : List Opt, (∀ o ∈ os, okO o) → opts (obs os ++ List.replicate m 0) = some os
 | [], _ => by rw [obs_nil, List.nil_append]; exact opts_rep m
 | o :: r, h => by
  have ih := opts_obs m r (fun x hx => h x (by simp [hx]))
  obtain ⟨k, d⟩ := o
  have ho := h (k, d) (by simp)
  unfold okO at ho
  dsimp only at ho
  rw [obs_cons, List.append_assoc]
  unfold ob1
  dsimp only
  split
  ·rename_i hk
   subst hk
   rw [List.cons_append, List.nil_append, opts_one, ih, ho.2 rfl]
   rfl
  ·rename_i hk
   simp only [List.cons_append]
   rw [opts_more k _ _ ho.1 hk (by omega) (by simp; omega)]
   rw [show (2 + (d.length : Int)).toNat - 2 = d.length from by omega, List.drop_left, List.take_left, ih]
   rfl
theorem opts_pad (os : List Opt) (h : obOk os) : opts (pad (obs os)) = some os := opts_obs _ os h.1

/-- What is read has no more bytes than there were. -/
theorem opts_by : ∀ (n : Nat) (zs : List Int) (os : List Opt), zs.length ≤ n → Mt.By zs → opts zs = some os → ByO os
 | 0, zs, os, h, _, e => by
  obtain rfl : zs = [] := by cases zs <;> simp_all
  rw [opts_nil] at e
  cases e
  intro o ho
  cases ho
 | n + 1, [], os, _, _, e => by
  rw [opts_nil] at e
  cases e
  intro o ho
  cases ho
 | n + 1, k :: r, os, h, hB, e => by
  obtain ⟨hk, hBr⟩ := hB.cons
  by_cases h0 : k = 0
  ·subst h0
   rw [opts_zero] at e
   split at e
   ·cases e
    intro o ho
    cases ho
   ·cases e
  by_cases h1 : k = 1
  ·subst h1
   rw [opts_one] at e
   cases hr : opts r with
   | none => rw [hr] at e; cases e
   | some l =>
    rw [hr] at e
    cases e
    intro o ho
    rcases List.mem_cons.1 ho with rfl | ho
    ·exact ⟨by simp, Mt.By.nil⟩
    ·exact opts_by n r l (by simp at h; omega) hBr hr o ho
  cases r with
  | nil => rw [opts_bare k h0 h1] at e; cases e
  | cons s r =>
   by_cases hs : s < 2 ∨ (r.length : Int) + 2 < s
   ·rw [opts_wrong k s r h0 h1 hs] at e
    cases e
   ·rw [opts_more k s r h0 h1 (by omega) (by omega)] at e
    cases hr : opts (r.drop (s.toNat - 2)) with
    | none => rw [hr] at e; cases e
    | some l =>
     rw [hr] at e
     cases e
     intro o ho
     rcases List.mem_cons.1 ho with rfl | ho
     ·exact ⟨hk, hBr.cons.2.take _⟩
     ·exact opts_by n _ l (by simp at h ⊢; omega) (hBr.cons.2.drop _) hr o ho
end Go.Proofs.YtghpakfjpdifaaaGreatDoor

/- Regions that draw and make a block of their own: what stays. -/
namespace Go.Proofs.YtghpakfjpdifaaaGreatDoor
open Go.RowKit Go.Shelf
set_option maxRecDepth 100000
set_option linter.unusedVariables false

/-- Blocks from n₁ on may turn; one that may be written stays so, and one that holds arr. -/
def KI (n₁ : Nat) (t : TypeId) (k : Nat) (arr : Array Value) (w w' : World) : Prop :=
 But (fun b => n₁ ≤ b) w w' ∧ (∀ pb, Wr pb k t w → Wr pb k t w') ∧ ∀ pb : Nat, w.heap[pb]? = some (Obj.cells arr t (0, 0)) → w'.heap[pb]? = some (Obj.cells arr t (0, 0))
theorem KI.pre (n₁ : Nat) (t : TypeId) (k : Nat) (arr : Array Value) : Pre (KI n₁ t k arr) :=
 ⟨fun a => ⟨But.refl _ a, fun _ h => h, fun _ h => h⟩, fun _ _ _ h l => ⟨h.1.trans l.1, fun pb g => l.2.1 pb (h.2.1 pb g), fun pb g => l.2.2 pb (h.2.2 pb g)⟩⟩
theorem KI.refl {n₁ : Nat} {t : TypeId} {k : Nat} {arr : Array Value} (a : World) : KI n₁ t k arr a a := (KI.pre n₁ t k arr).1 a
theorem KI.trans {n₁ : Nat} {t : TypeId} {k : Nat} {arr : Array Value} {a b c : World} (h : KI n₁ t k arr a b) (l : KI n₁ t k arr b c) : KI n₁ t k arr a c := (KI.pre n₁ t k arr).2 _ _ _ h l
theorem KI.of {n₁ : Nat} {t : TypeId} {k : Nat} {arr : Array Value} {a b : World} (l : Later a b) : KI n₁ t k arr a b :=
 ⟨But.of l, fun pb h => h.later l, fun pb h => (l.block pb (bl9 h)).trans h⟩
theorem KI.store {n₁ pb : Nat} {t : TypeId} {k : Nat} {w : World} (vs : List Value) (hn : n₁ ≤ pb) (hw : Wr pb k t w) (hk : vs.length = k) : KI n₁ t k vs.toArray w (putRow w pb 0 vs) ∧ (putRow w pb 0 vs).heap[pb]? = some (Obj.cells vs.toArray t (0, 0)) := by
 obtain ⟨cur, hc, hs⟩ := hw
 have hall := putRow_all vs hc (by omega)
 have hbut : But (fun b => b = pb) w (putRow w pb 0 vs) := putRow_but (E := fun b => b = pb) (n := pb) rfl vs 0 w w (But.refl _ _)
 have keep : ∀ p o, p ≠ pb → w.heap[p]? = some o → (putRow w pb 0 vs).heap[p]? = some o := fun p o hp h => (hbut.block p (bl9 h) hp).trans h
 refine ⟨⟨putRow_but (E := fun b => n₁ ≤ b) (n := pb) hn vs 0 w w (But.refl _ _), fun p h => ?_, fun p h => ?_⟩, hall⟩
 ·by_cases hp : p = pb
  ·subst hp; exact ⟨_, hall, by simpa using hk⟩
  ·obtain ⟨c, h1, h2⟩ := h; exact ⟨c, keep p _ hp h1, h2⟩
 ·by_cases hp : p = pb
  ·subst hp; exact hall
  ·exact keep p _ hp h


section
variable {P : Program} {l : List Oper} {Q : Exit → Act → World → Prop} {fuel : Nat} {listed : Array Bool} {a : Act} {w : World} {R : World → World → Prop}
/-- Number i, whose guard holds, is taken first. -/
theorem anyR_takeG (hp : Pre R) (i : Nat) {oi : Oper} (v : Value) (hi : nthOp l i = some oi)
  (hs : Region.noSelect l.toArray = true) (hf : Region.free .any l.toArray listed i = true) (hr : (Region.ready .any l.toArray listed).contains i = true)
  (hQ : ∀ c a w, Q (.panic c) (a.put oi.dst v) w → Q (.panic c) a w) (hg : Region.wanted oi (yielded l.toArray a.tmps) = true)
  (hy : ∀ w', R w w' → goesTo P R w' v ((execOp a.eval oi).run P w'))
  (h : wpAnyR P .any l.toArray Q R fuel (listed.setIfInBounds i true) (a.put oi.dst v) w) : wpAnyR P .any l.toArray Q R (fuel + 1) listed a w := by
 have hi' : l.toArray[i]? = some oi := by rw [← hi, nthOp_eq]; simp
 exact wpAnyR_first hp.1 hp.2 hi' (Region.noSelect_spec hs) hQ fuel listed a w (Region.free_spec hi' hf) (by simpa using hr) (.inl ⟨hg, hy⟩) h
theorem anyR_valG (hp : Pre R) (i : Nat) {oi : Oper} (hi : nthOp l i = some oi)
  (hs : Region.noSelect l.toArray = true) (hf : Region.free .any l.toArray listed i = true) (hr : (Region.ready .any l.toArray listed).contains i = true)
  (hQ : ∀ v c a w, Q (.panic c) (a.put oi.dst v) w → Q (.panic c) a w) (hg : Region.wanted oi (yielded l.toArray a.tmps) = true)
  (h : ∃ v, (∀ w', R w w' → (execOp a.eval oi).run P w' = .ok (.value v) w') ∧ wpAnyR P .any l.toArray Q R fuel (listed.setIfInBounds i true) (a.put oi.dst v) w) : wpAnyR P .any l.toArray Q R (fuel + 1) listed a w :=
 let ⟨v, h1, h2⟩ := h
 anyR_takeG hp i v hi hs hf hr (hQ v) hg (fun w' hw' => goes_val hp (h1 w' hw')) h2
end
end Go.Proofs.YtghpakfjpdifaaaGreatDoor

/- Package segs: options as they lie in memory; which are right, how long they are. -/
namespace Go.Proofs.YtghpakfjpdifaaaGreatDoor
open Go.RowKit Go.Shelf
set_option maxRecDepth 100000
set_option linter.unusedVariables false
set_option linter.unusedSimpArgs false

/-- The slice value reads as these options, all of it below block n₀. -/
def RdO (n₀ : Nat) (W : World) (sv : Value) (os : List Opt) : Prop :=
 (∃ a cap, sv = .slice a 0 cap ∧ os = [] ∧ cap ≤ 9223372036854775807 ∧ (a = none → cap = 0)) ∨
 ∃ b off cap, sv = .slice (some ⟨b, off, none⟩) os.length cap ∧ os ≠ [] ∧ os.length ≤ cap ∧ cap ≤ 9223372036854775807 ∧ b < n₀ ∧
  ∀ j, j < os.length → ∃ s, W.cell? ⟨b, off + j * 2, none⟩ = some (.int .u8 (os[j]?.getD (0, [])).1) ∧ W.cell? ⟨b, off + j * 2 + 1, none⟩ = some s ∧ Rd n₀ W s (os[j]?.getD (0, [])).2
theorem RdO.below {n₀ : Nat} {A B : World} (h : Below n₀ A B) {sv : Value} {os : List Opt} : RdO n₀ A sv os → RdO n₀ B sv os
 | .inl e => .inl e
 | .inr ⟨b, off, cap, e, hne, hl, hm, hb, hc⟩ => .inr ⟨b, off, cap, e, hne, hl, hm, hb, fun j hj => let ⟨s, h1, h2, h3⟩ := hc j hj; ⟨s, (h.cell (p := ⟨b, off + j * 2, none⟩) hb).trans h1, (h.cell (p := ⟨b, off + j * 2 + 1, none⟩) hb).trans h2, h3.below h⟩⟩
theorem RdO.mono {n₀ n₁ : Nat} {A : World} (h : n₀ ≤ n₁) {sv : Value} {os : List Opt} : RdO n₀ A sv os → RdO n₁ A sv os
 | .inl e => .inl e
 | .inr ⟨b, off, cap, e, hne, hl, hm, hb, hc⟩ => .inr ⟨b, off, cap, e, hne, hl, hm, Nat.lt_of_lt_of_le hb h, fun j hj => let ⟨s, h1, h2, h3⟩ := hc j hj; ⟨s, h1, h2, h3.mono h⟩⟩
theorem RdO.slice {n₀ : Nat} {A : World} {sv : Value} {os : List Opt} : RdO n₀ A sv os → ∃ a cap, sv = .slice a os.length cap ∧ os.length ≤ cap ∧ cap ≤ 9223372036854775807
 | .inl ⟨a, cap, e, hz, hm, _⟩ => ⟨a, cap, by rw [e, hz]; rfl, by rw [hz]; exact Nat.zero_le _, hm⟩
 | .inr ⟨b, off, cap, e, _, hl, hm, _⟩ => ⟨_, cap, e, hl, hm⟩
theorem RdO.cells {n₀ : Nat} {W : World} {sv : Value} {os : List Opt} (h : RdO n₀ W sv os) (hne : 0 < os.length) : ∃ b off cap, sv = .slice (some ⟨b, off, none⟩) os.length cap ∧ os.length ≤ cap ∧ cap ≤ 9223372036854775807 ∧ b < n₀ ∧
  ∀ j, j < os.length → ∃ s, W.cell? ⟨b, off + j * 2, none⟩ = some (.int .u8 (os[j]?.getD (0, [])).1) ∧ W.cell? ⟨b, off + j * 2 + 1, none⟩ = some s ∧ Rd n₀ W s (os[j]?.getD (0, [])).2 := by
 rcases h with ⟨a, cap, _, rfl, _⟩ | ⟨b, off, cap, e, _, hl, hm, hb, hc⟩
 ·simp at hne
 ·exact ⟨b, off, cap, e, hl, hm, hb, hc⟩

section
variable {P : Program} {l : List Oper} {Q : Exit → Act → World → Prop} {fuel : Nat} {listed : Array Bool} {a : Act} {w : World} {R : World → World → Prop}
end
end Go.Proofs.YtghpakfjpdifaaaGreatDoor

/- A range over a function that hands over memory of its own: what it tells of an item holds in the world in which it yields it. -/
namespace Go.Proofs.YtghpakfjpdifaaaGreatDoor
open Go.RowKit Go.Shelf
set_option maxRecDepth 100000
set_option linter.unusedVariables false

/-- What the function does: it yields items, each with what X says of it there, and goes on while the body says so; J is whatever abides new memory. -/
def GenX {α : Type} (F : Fence) (n : Nat) (P : Program) (g : Nat) (lb : Array Value) (encs : α → Array Value) (Kp : World → World → Prop) (X : List α → α → World → Prop) (S Sp : List α → Prop) (w : World) : Prop :=
 ∀ (l : Nat) (J Jx : List α → World → Prop) (W : World), Below w.heap.size w W → (∀ s A B, J s A → Later A B → J s B) →
  (∀ pre x V, J pre V → X pre x V → YieldAt F (n - 1) P l (encs x) V fun e V' => (e = .returned (.bool true) ∧ J (pre ++ [x]) V' ∧ Kp V V') ∨ (e = .returned (.bool false) ∧ Jx (pre ++ [x]) V')) →
  J [] W → CallsIn F n P g (#[.func (.yield l) #[] #[]] ++ lb) W fun e W' => (∃ v, e = .returned v) ∧ ((∃ xs, S xs ∧ J xs W') ∨ ∃ pre, Sp pre ∧ Jx pre W')

/-- How a round's body is left: it goes on, or it returns. -/
def postX {α : Type} (B : Nat) (Kp : World → World → Prop) (I Ix : List α → World → Prop) (xs : List α) (W : World) : Exit → Act → World → Prop
 | .normal, _, V => KeepsFrom B W V ∧ Kp W V ∧ I xs V
 | .ret, _, V => KeepsFrom B W V ∧ Ix xs V
 | _, _, _ => False

theorem later_keep {A B : World} (h : Later A B) {k : Nat} {o : Obj} (ho : A.heap[k]? = some o) : B.heap[k]? = some o := (h.block k (bl9 ho)).trans ho

theorem wpIn_rangeX {F : Fence} {n : Nat} {P : Program} {α : Type} {g : Operand} {ps : Array Tmp} {assign body : Code} {Q : Exit → Act → World → Prop} {a : Act} {w : World}
  (hro : F.round = none) (h1 : 1 ≤ n) {gf : Nat} {lb : Array Value} (hg : a.eval g = .func (.func gf) #[] lb) (hFg : F.fn gf) (eg : ∀ args w, (callFunc gf args).run P w = .ok (.enter gf args) w)
  {encs : α → Array Value} {Kp : World → World → Prop} {X : List α → α → World → Prop} {S Sp : List α → Prop} (hseq : GenX F (n - 1) P gf lb encs Kp X S Sp w)
  (hKt : ∀ {A B C : World}, Kp A B → Kp B C → Kp A C) (hKb : ∀ (W : World) (l : Nat) (o o' : Obj), w.heap.size ≤ l → W.heap[l]? = some o → o.isCells = false → o.isWalk = false → Kp W (W.putObj l o'))
  (hKl : ∀ {A B : World}, w.heap.size ≤ A.heap.size → Later A B → Kp A B) (hXl : ∀ pre x A B, X pre x A → Later A B → X pre x B)
  (hXb : ∀ pre x (W : World) (l : Nat) (o o' : Obj), w.heap.size ≤ l → W.heap[l]? = some o → o.isCells = false → X pre x W → X pre x (W.putObj l o')) (hps : ∀ x, (encs x).size = ps.size)
  (I Ix : List α → World → Prop) (hI : OwnFrom w.heap.size I) (hIl : ∀ s A B, I s A → Later A B → I s B) (hIx : OwnFrom w.heap.size Ix) (h0 : I [] w)
  (A : α → Act → World → Prop) (hA : ∀ x a' (W : World) (l : Nat) (o o' : Obj), w.heap.size ≤ l → W.heap[l]? = some o → o.isCells = false → A x a' W → A x a' (W.putObj l o'))
  (hassign : ∀ (l : Nat) (pre : List α) (x : α) (W : World) (K : Act → World → Prop), w.heap.size ≤ W.heap.size → I pre W → X pre x W → (∀ a' W', Later W W' → A x a' W' → K a' W') →
   assign.wpIn (F.inRound l) (n - 1 - 1) P (Exit.then K (fun _ _ _ => False)) { tmps := (ps.zip (encs x)).foldl (fun t (p, v) => t.setIfInBounds p v) a.tmps, defers := [] } W)
  (hbody : ∀ (l : Nat) (pre : List α) (x : α) (a' : Act) (W : World), I pre W → X pre x W → A x a' W → body.wpIn (F.inRound l) (n - 1 - 1) P (postX w.heap.size Kp I Ix (pre ++ [x]) W) a' W)
  (hdone : ∀ (D : Nat) (xs : List α) (W : World), w.heap.size ≤ D → S xs → I xs W → W.heap[D]? = some (.deferred (some [])) → Q .normal { a with defers := { target := .collected D, args := #[] } :: a.defers } W)
  (hstop : ∀ (D : Nat) (pre : List α) (W : World), w.heap.size ≤ D → Sp pre → Ix pre W → W.heap[D]? = some (.deferred (some [])) → Code.ret.wpIn F n P Q { a with defers := { target := .collected D, args := #[] } :: a.defers } W) :
  (Code.rangeFunc g ps assign body).wpIn F n P Q a w := by
 refine wpIn_rangeFunc fun fn hfn => ?_
 rw [hro]
 obtain ⟨rec, hrec⟩ : ∃ rec : LoopState → Option Code → Loop, rec = fun st pe => { state := st, pending := pe, fn, tmps := a.tmps, params := ps, assign, body, defers := w.heap.size } := ⟨_, rfl⟩
 obtain ⟨V, hV⟩ : ∃ V, (w.alloc (.deferred (some []))).alloc (.loop (rec .ready none)) = V := ⟨_, rfl⟩
 have hl : V.heap[w.heap.size + 1]? = some (.loop (rec .ready none)) := by
  have := World.alloc_heap_new (w.alloc (.deferred (some []))) (.loop (rec .ready none))
  rw [World.size_alloc] at this
  rw [← hV]
  exact this
 have hk : V.heap[w.heap.size]? = some (.deferred (some [])) := by
  rw [← hV]
  exact (Below.heap_alloc _ _ _ (by simp)).trans (World.alloc_heap_new w _)
 have hi : I [] V := by rw [← hV]; exact hI.alloc _ (hI.alloc _ h0)
 have hb : Below w.heap.size w V := by rw [← hV]; exact ((Below.refl _ w).alloc (Nat.le_refl _) _).alloc (by simp) _
 refine ⟨w.heap.size + 1, [{ target := .collected w.heap.size, args := #[] }], V, { target := .fn (.func gf) lb, args := #[.func (.yield (w.heap.size + 1)) #[] #[]] }, V, gf, #[.func (.yield (w.heap.size + 1)) #[] #[]] ++ lb, V, ?_, ?_, ?_, ?_, fun _ => h1, ?_⟩
 ·rw [← hV, hrec]; exact run_enterLoop_outer _ _ _ _ _
 ·simp only [resolve, hg]
  simp [go_sem]
 ·intro f' hf'; simp [Target.leads] at hf'; subst hf'; exact hFg
 ·simp [invoke, go_sem, eg]
 refine (hseq (w.heap.size + 1) (fun pre W => I pre W ∧ W.heap[w.heap.size + 1]? = some (.loop (rec .ready none)) ∧ W.heap[w.heap.size]? = some (.deferred (some [])))
  (fun pre W => Ix pre W ∧ W.heap[w.heap.size + 1]? = some (.loop (rec .done (some .ret))) ∧ W.heap[w.heap.size]? = some (.deferred (some []))) V hb
  (fun s A B hs h => ⟨hIl s A B hs.1 h, later_keep h hs.2.1, later_keep h hs.2.2⟩) ?_ ⟨hi, hl, hk⟩).mono ?_
 ·rintro pre x W ⟨ji, jl, jk⟩ hx
  have hlt : w.heap.size + 1 < W.heap.size := (bl9 jl)
  have hy := run_yield (P := P) (args := encs x) jl (by rw [hrec]; exact hps x)
  rw [hrec] at hy
  refine ⟨fn, _, assign, body, hy, roundIn_of_wpIn hfn (hassign _ pre x W _ (by omega) ji hx fun a' W' hL hAx => ?_)⟩
  have pL : Kp W W' := hKl (by omega) hL
  replace ji := hIl _ _ _ ji hL
  replace jl := later_keep hL jl
  replace jk := later_keep hL jk
  replace hx := hXl _ _ _ _ hx hL
  replace hlt : w.heap.size + 1 < W'.heap.size := (bl9 jl)
  refine ⟨_, run_beginRound jl (by rw [hrec]), ?_⟩
  obtain ⟨U, hU⟩ : ∃ U, W'.putObj (w.heap.size + 1) (.loop { rec .ready none with state := .busy }) = U := ⟨_, rfl⟩
  have l2 : U.heap[w.heap.size + 1]? = some (.loop { rec .ready none with state := .busy }) := by rw [← hU]; exact World.putObj_heap_same hlt
  have k2 : U.heap[w.heap.size]? = some (.deferred (some [])) := by rw [← hU]; exact (World.putObj_heap_other (by omega)).trans jk
  have p2 : Kp W U := by rw [← hU]; exact hKt pL (hKb _ _ _ _ (by omega) jl rfl rfl)
  have a2 : A x a' U := by rw [← hU]; exact hA _ _ _ _ _ _ (by omega) jl rfl hAx
  have i2 : I pre U := by rw [← hU]; exact hI.putObj _ ji (by omega) jl rfl
  have x2 : X pre x U := by rw [← hU]; exact hXb _ _ _ _ _ _ (by omega) jl rfl hx
  rw [hU]
  refine wpIn_mono (hbody _ pre x a' U i2 x2 a2) ?_
  have fin : ∀ (jump : Option Code) (Z : World), KeepsFrom w.heap.size U Z →
    (Instr.endRound (w.heap.size + 1) jump).run P Z = .ok (.bool jump.isNone) (Z.putObj (w.heap.size + 1) (.loop (rec (if jump.isNone then .ready else .done) jump))) ∧ Z.heap[w.heap.size + 1]? = some (.loop { rec .ready none with state := .busy }) ∧
    (Z.putObj (w.heap.size + 1) (.loop (rec (if jump.isNone then .ready else .done) jump))).heap[w.heap.size + 1]? = some (.loop (rec (if jump.isNone then .ready else .done) jump)) ∧
    (Z.putObj (w.heap.size + 1) (.loop (rec (if jump.isNone then .ready else .done) jump))).heap[w.heap.size]? = some (.deferred (some [])) := fun jump Z hZ => by
   have l3 := hZ.same _ _ (by omega) l2 rfl
   have r3 := run_endRound (P := P) jump l3
   rw [hrec] at r3 ⊢
   exact ⟨r3, by rw [hrec] at l3; exact l3, World.putObj_heap_same (bl9 l3), (World.putObj_heap_other (by omega)).trans (hZ.same _ _ (Nat.le_refl _) k2 rfl)⟩
  rintro e a3 Z hp
  cases e with
  | normal =>
   obtain ⟨hZ, hp3, hi3⟩ := hp
   obtain ⟨hr, l3, l4, k4⟩ := fin none Z hZ
   exact ⟨_, _, hr, .inl ⟨rfl, ⟨hI.putObj _ hi3 (by omega) l3 rfl, l4, k4⟩, hKt (hKt p2 hp3) (hKb _ _ _ _ (by omega) l3 rfl rfl)⟩⟩
  | ret =>
   obtain ⟨hZ, hi3⟩ := hp
   obtain ⟨hr, l3, l4, k4⟩ := fin (some .ret) Z hZ
   exact ⟨_, _, hr, .inr ⟨rfl, hIx.putObj _ hi3 (by omega) l3 rfl, l4, k4⟩⟩
  | exit id => exact hp.elim
  | goto t => exact hp.elim
  | panic ch => exact hp.elim
  | outgrown => exact hp.elim
 ·rintro e W2 ⟨⟨v, rfl⟩, (⟨xs, hS, ji, jl, jk⟩ | ⟨pre, hSp, ji, jl, jk⟩)⟩
  ·exact ⟨none, _, by have := run_endLoop (P := P) jl (by rw [hrec]; simp); rw [hrec] at this; exact this, hdone _ xs _ (Nat.le_refl _) hS (hI.putObj _ ji (by omega) jl rfl) ((World.putObj_heap_other (by omega)).trans jk)⟩
  ·exact ⟨some .ret, _, by have := run_endLoop (P := P) jl (by rw [hrec]; simp); rw [hrec] at this; exact this, hstop _ pre _ (Nat.le_refl _) hSp (hIx.putObj _ ji (by omega) jl rfl) ((World.putObj_heap_other (by omega)).trans jk)⟩
end Go.Proofs.YtghpakfjpdifaaaGreatDoor

/- Package segs: the bytes of options. -/
namespace Go.Proofs.YtghpakfjpdifaaaGreatDoor
open Go.RowKit Go.Shelf
set_option maxRecDepth 100000
set_option linter.unusedVariables false
set_option linter.unusedSimpArgs false

theorem HSt.below {tl : List Value} {t : TypeId} {ub : Nat} {N : Nat → Prop} {ys : List Int} {W W' : World} (h : HSt tl t ub N ys W) (l : Later W W') : HSt tl t ub N ys W' := by
 obtain ⟨v, h1, h2, h3⟩ := h
 refine ⟨v, (l.block ub (bl9 h1)).trans h1, ⟨h2.1, h2.2.imp id ?_⟩, h3⟩
 rintro ⟨g, cap, cur, e, hg, hh, r⟩
 exact ⟨g, cap, cur, e, hg, (l.block g (bl9 hh)).trans hh, r⟩
theorem HSt.cell {tl : List Value} {t : TypeId} {ub : Nat} {N : Nat → Prop} {ys : List Int} {W : World} (h : HSt tl t ub N ys W) : ∃ a c, W.cell? ⟨ub, 0, none⟩ = some (.slice a ys.length c) ∧ Ow (ub + 1) W (.slice a ys.length c) ys ∧ ys.length ≤ c := by
 obtain ⟨v, h1, h2, h3⟩ := h
 have hO := Ow.of_row h2
 obtain ⟨a, c, rfl, hc, _⟩ := hO.slice
 exact ⟨a, c, by have := block_cell h1 0; simpa using this, hO, hc⟩

end Go.Proofs.YtghpakfjpdifaaaGreatDoor

/- Package segs: the packet with a segment. -/
namespace Go.Proofs.YtghpakfjpdifaaaGreatDoor
open Go.RowKit Go.Shelf
set_option maxRecDepth 100000
set_option linter.unusedVariables false
set_option linter.unusedSimpArgs false

/-- A segment's bytes, 0 for its check sum; with it. -/
def tcp0 (sp dp sq ak fl wn ur : Int) (ob zd : List Int) : List Int := [sp, dp].flatMap b2 ++ [sq, ak].flatMap b4 ++ [(20 + (ob.length : Int)) / 4 * 16, fl] ++ [wn, 0, ur].flatMap b2 ++ ob ++ zd
def tcp (sp dp sq ak fl wn ur : Int) (ob : List Int) (src dst : Int) (zd : List Int) : List Int := Mt.put2 (tcp0 sp dp sq ak fl wn ur ob zd) 16 (Mt.cks (psd src dst 6 (20 + ob.length + zd.length : Nat) ++ tcp0 sp dp sq ak fl wn ur ob zd))
theorem tcp0_length (sp dp sq ak fl wn ur : Int) (ob zd : List Int) : (tcp0 sp dp sq ak fl wn ur ob zd).length = 20 + ob.length + zd.length := by simp [tcp0, b2, b4]; omega
theorem tcp_length (sp dp sq ak fl wn ur : Int) (ob : List Int) (src dst : Int) (zd : List Int) : (tcp sp dp sq ak fl wn ur ob src dst zd).length = 20 + ob.length + zd.length := by simp [tcp, Mt.put2_length, tcp0_length]
theorem By_tcp0 (sp dp sq ak fl wn ur : Int) (ob zd : List Int) (h1 : 0 ≤ sp ∧ sp ≤ 65535) (h2 : 0 ≤ dp ∧ dp ≤ 65535) (h3 : 0 ≤ sq ∧ sq ≤ 4294967295) (h4 : 0 ≤ ak ∧ ak ≤ 4294967295) (h5 : 0 ≤ fl ∧ fl ≤ 255) (h6 : 0 ≤ wn ∧ wn ≤ 65535) (h7 : 0 ≤ ur ∧ ur ≤ 65535) (ho : ob.length ≤ 40) (hB : Mt.By ob) (hB2 : Mt.By zd) : Mt.By (tcp0 sp dp sq ak fl wn ur ob zd) := by
 unfold tcp0
 refine (Mt.By.append ?_ hB).append hB2
 simp only [List.flatMap_cons, List.flatMap_nil, b2, b4, List.cons_append, List.nil_append, List.append_nil]
 exact .mk (by omega) (.mk (by omega) (.mk (by omega) (.mk (by omega) (.mk (by omega) (.mk (by omega) (.mk (by omega) (.mk (by omega) (.mk (by omega) (.mk (by omega) (.mk (by omega) (.mk (by omega) (.mk (by omega) (.mk (by omega) (.mk (by omega) (.mk (by omega) (.mk (by omega) (.mk (by omega) (.mk (by omega) (.mk (by omega) .nil)))))))))))))))))))
theorem By_tcp (sp dp sq ak fl wn ur : Int) (ob : List Int) (src dst : Int) (zd : List Int) (h : Mt.By (tcp0 sp dp sq ak fl wn ur ob zd)) : Mt.By (tcp sp dp sq ak fl wn ur ob src dst zd) := h.put2 16 (Mt.cks_bd _)
/-- What a segment is refused with when it is built (0: nothing). -/
def bte (os : List Opt) (lo lm : Nat) : Int := if obOk os then flt lo (20 + (pad (obs os)).length + lm) else 4

end Go.Proofs.YtghpakfjpdifaaaGreatDoor

/- Package segs: the walk over a header's options. -/
namespace Go.Proofs.YtghpakfjpdifaaaGreatDoor
open Go.RowKit Go.Shelf
set_option maxRecDepth 100000
attribute [local go_sem] Oper.semAt_some
set_option linter.unusedVariables false
set_option linter.unusedSimpArgs false

theorem uncons {α : Type} {n : Nat} {l : List α} (h : l.length = n + 1) : ∃ a r, l = a :: r ∧ r.length = n := by
 cases l with
 | nil => simp at h
 | cons a r => exact ⟨a, r, rfl, by simpa using h⟩
theorem list49 {α : Type} {l : List α} (h : l.length = 49) : ∃ v0 v1 v2 v3 v4 v5 v6 v7 v8 v9 v10 v11 v12 v13 v14 v15 v16 v17 v18 v19 v20 v21 v22 v23 v24 v25 v26 v27 v28 v29 v30 v31 v32 v33 v34 v35 v36 v37 v38 v39 v40 v41 v42 v43 v44 v45 v46 v47 v48, l = [v0, v1, v2, v3, v4, v5, v6, v7, v8, v9, v10, v11, v12, v13, v14, v15, v16, v17, v18, v19, v20, v21, v22, v23, v24, v25, v26, v27, v28, v29, v30, v31, v32, v33, v34, v35, v36, v37, v38, v39, v40, v41, v42, v43, v44, v45, v46, v47, v48] := by
 obtain ⟨v0, l0, rfl, h0⟩ := uncons h
 obtain ⟨v1, l1, rfl, h1⟩ := uncons h0
 obtain ⟨v2, l2, rfl, h2⟩ := uncons h1
 obtain ⟨v3, l3, rfl, h3⟩ := uncons h2
 obtain ⟨v4, l4, rfl, h4⟩ := uncons h3
 obtain ⟨v5, l5, rfl, h5⟩ := uncons h4
 obtain ⟨v6, l6, rfl, h6⟩ := uncons h5
 obtain ⟨v7, l7, rfl, h7⟩ := uncons h6
 obtain ⟨v8, l8, rfl, h8⟩ := uncons h7
 obtain ⟨v9, l9, rfl, h9⟩ := uncons h8
 obtain ⟨v10, l10, rfl, h10⟩ := uncons h9
 obtain ⟨v11, l11, rfl, h11⟩ := uncons h10
 obtain ⟨v12, l12, rfl, h12⟩ := uncons h11
 obtain ⟨v13, l13, rfl, h13⟩ := uncons h12
 obtain ⟨v14, l14, rfl, h14⟩ := uncons h13
 obtain ⟨v15, l15, rfl, h15⟩ := uncons h14
 obtain ⟨v16, l16, rfl, h16⟩ := uncons h15
 obtain ⟨v17, l17, rfl, h17⟩ := uncons h16
 obtain ⟨v18, l18, rfl, h18⟩ := uncons h17
 obtain ⟨v19, l19, rfl, h19⟩ := uncons h18
 obtain ⟨v20, l20, rfl, h20⟩ := uncons h19
 obtain ⟨v21, l21, rfl, h21⟩ := uncons h20
 obtain ⟨v22, l22, rfl, h22⟩ := uncons h21
 obtain ⟨v23, l23, rfl, h23⟩ := uncons h22
 obtain ⟨v24, l24, rfl, h24⟩ := uncons h23
 obtain ⟨v25, l25, rfl, h25⟩ := uncons h24
 obtain ⟨v26, l26, rfl, h26⟩ := uncons h25
 obtain ⟨v27, l27, rfl, h27⟩ := uncons h26
 obtain ⟨v28, l28, rfl, h28⟩ := uncons h27
 obtain ⟨v29, l29, rfl, h29⟩ := uncons h28
 obtain ⟨v30, l30, rfl, h30⟩ := uncons h29
 obtain ⟨v31, l31, rfl, h31⟩ := uncons h30
 obtain ⟨v32, l32, rfl, h32⟩ := uncons h31
 obtain ⟨v33, l33, rfl, h33⟩ := uncons h32
 obtain ⟨v34, l34, rfl, h34⟩ := uncons h33
 obtain ⟨v35, l35, rfl, h35⟩ := uncons h34
 obtain ⟨v36, l36, rfl, h36⟩ := uncons h35
 obtain ⟨v37, l37, rfl, h37⟩ := uncons h36
 obtain ⟨v38, l38, rfl, h38⟩ := uncons h37
 obtain ⟨v39, l39, rfl, h39⟩ := uncons h38
 obtain ⟨v40, l40, rfl, h40⟩ := uncons h39
 obtain ⟨v41, l41, rfl, h41⟩ := uncons h40
 obtain ⟨v42, l42, rfl, h42⟩ := uncons h41
 obtain ⟨v43, l43, rfl, h43⟩ := uncons h42
 obtain ⟨v44, l44, rfl, h44⟩ := uncons h43
 obtain ⟨v45, l45, rfl, h45⟩ := uncons h44
 obtain ⟨v46, l46, rfl, h46⟩ := uncons h45
 obtain ⟨v47, l47, rfl, h47⟩ := uncons h46
 obtain ⟨v48, l48, rfl, h48⟩ := uncons h47
 obtain rfl : l48 = [] := List.eq_nil_of_length_eq_zero h48
 exact ⟨v0, v1, v2, v3, v4, v5, v6, v7, v8, v9, v10, v11, v12, v13, v14, v15, v16, v17, v18, v19, v20, v21, v22, v23, v24, v25, v26, v27, v28, v29, v30, v31, v32, v33, v34, v35, v36, v37, v38, v39, v40, v41, v42, v43, v44, v45, v46, v47, v48, rfl⟩

set_option maxHeartbeats 1000000 in
theorem notZero_any (x : Int) (w : World) : Calls Tryz.prog 135 #[.int .u8 x] w fun e w' => e = .returned (.bool (x != 0)) ∧ w' = w := by
 go_enter Tryz.func135, Tryz.ntmps135
 go_wp2
 go_ret
 exact ⟨rfl, rfl⟩

set_option maxHeartbeats 1000000 in
theorem idxb_any (n₀ : Nat) (sv : Value) (zs : List Int) (w : World) (hI : Rd n₀ w sv zs) (hl : zs.length ≤ 140737488355328) :
  Calls Tryz.prog 136 #[sv, .func (.func 135) #[] #[]] w fun e w' => w' = w ∧ (((∀ x ∈ zs, x = 0) ∧ e = .returned (.int .i64 (-1))) ∨ ((¬ ∀ x ∈ zs, x = 0) ∧ ∃ k : Nat, k < zs.length ∧ e = .returned (.int .i64 (k : Int)))) := by
 obtain ⟨a, cap, rfl, hc1, hc2⟩ := hI.slice
 go_enter Tryz.func136, Tryz.ntmps136
 go_wp2
 go_loopw [8] (fun i wr => ∃ k : Nat, k ≤ zs.length ∧ i = .int .i64 (k : Int) ∧ (∀ j, j < k → zs[j]?.getD 0 = 0) ∧ wr = w) (fun i _ => zs.length - (intOf i).toNat)
 case atStart => exact ⟨0, by omega, rfl, fun j h => by omega, rfl⟩
 case round =>
  obtain ⟨k, hk, rfl, hz, rfl⟩ := hrel
  by_cases hlt : k < zs.length
  ·obtain ⟨b, off, cp, e, _, _, hbb, hcs⟩ := hI.cells (by omega)
   simp at e
   obtain ⟨rfl, rfl⟩ := e
   have c0 := hcs k hlt
   have hlt' : (k : Int) < zs.length := by omega
   have HX : Hid (zs[k]?.getD 0 = zs[k]?.getD 0) := rfl
   generalize hx : zs[k]?.getD 0 = x at c0
   have HXX := hide hx
   have HZ := hide hz
   clear hx hcs hz
   go_wp2_with fail
   refine (notZero_any x _).mono ?_
   rintro e w' ⟨rfl, rfl⟩
   cases hx0 : (x != 0) with
   | true =>
    have hne : x ≠ 0 := by simpa using hx0
    clear hx0
    go_wp2_with fail
    go_ret
    refine ⟨rfl, .inr ⟨fun h => hne ?_, k, hlt, rfl⟩⟩
    rw [← HXX.out]
    have := h (zs[k]?.getD 0) (by simp [hlt])
    exact this
   | false =>
    have hne : x = 0 := by simpa using hx0
    have HNE := hide hne
    clear hx0 hne
    go_wp2_with fail
    go_roundw
    case rel => exact ⟨k + 1, by omega, by go_num, fun j hj => by by_cases h : j = k; (subst h; rw [HXX.out]; exact HNE.out); exact HZ.out j (by omega), trivial⟩
    case measure => simp [intOf]; omega
  ·obtain rfl : k = zs.length := by omega
   have HZ := hide hz
   clear hz
   go_wp2_with fail
   go_ret
   refine ⟨rfl, .inl ⟨fun x hx => ?_, rfl⟩⟩
   obtain ⟨j, hj, rfl⟩ := List.getElem_of_mem hx
   have := HZ.out j hj
   simpa [hj] using this

def azb (zs : List Int) : Bool := decide (∀ x ∈ zs, x = 0)
set_option maxHeartbeats 1000000 in
theorem blank_any (n₀ : Nat) (sv : Value) (zs : List Int) (w : World) (hI : Rd n₀ w sv zs) (hl : zs.length ≤ 140737488355328) :
  Calls Tryz.prog 132 #[sv] w fun e w' => e = .returned (.bool (azb zs)) ∧ w' = w := by
 obtain ⟨a, cap, rfl, hc1, hc2⟩ := hI.slice
 have hcf : Calls Tryz.prog 134 #[.slice a zs.length cap, .func (.func 135) #[] #[]] w fun e w' => e = .returned (.bool (!azb zs)) ∧ w' = w := by
  go_enter Tryz.func134, Tryz.ntmps134
  go_wp2_with fail
  refine (idxb_any n₀ _ zs w hI hl).mono ?_
  rintro e w' ⟨rfl, ⟨hz, rfl⟩ | ⟨hz, k, hk, rfl⟩⟩
  ·go_wp2
   go_ret
   exact ⟨by unfold azb; rw [decide_eq_true hz]; rfl, rfl⟩
  ·go_wp2
   go_ret
   refine ⟨?_, rfl⟩
   unfold azb
   rw [decide_eq_false hz]
   simp
 go_enter Tryz.func132, Tryz.ntmps132
 go_wp2_with fail
 refine hcf.mono ?_
 rintro e w' ⟨rfl, rfl⟩
 go_wp2
 go_ret
 exact ⟨by simp, rfl⟩
end Go.Proofs.YtghpakfjpdifaaaGreatDoor

/- Package segs: one option out of its bytes. -/
namespace Go.Proofs.YtghpakfjpdifaaaGreatDoor
open Go.RowKit Go.Shelf
set_option maxRecDepth 100000
set_option linter.unusedVariables false
set_option linter.unusedSimpArgs false

abbrev zop : List Value := [.int .u8 0, .slice none 0 0]

set_option maxHeartbeats 2000000 in
theorem optionOf_any (sv : Value) (zs : List Int) (w : World) (hI : Rd w.heap.size w sv zs) (hB : Mt.By zs) (hl : zs.length ≤ 140737488355328) (h1 : 0 < zs.length) (h2 : zs[0]?.getD 0 ≠ 1 → 2 ≤ zs.length) :
  Calls Tryz.prog 133 #[sv] w fun e w' => Below w.heap.size w w' ∧ ∃ s, e = .returned (.agg #[.int .u8 (zs[0]?.getD 0), s]) ∧ Ow w.heap.size w' s (if zs[0]?.getD 0 = 1 then [] else zs.drop 2) := by
 obtain ⟨b, off, cap, rfl, hc1, hc2, hbb, hcs⟩ := hI.cells h1
 have d0 := hcs 0 h1
 rw [Nat.add_zero] at d0
 clear hcs
 have hb0 : Below w.heap.size w (w.alloc (.cells zop.toArray 115)) := (Below.refl _ _).alloc (Nat.le_refl _) _
 have r0 : (w.alloc (.cells zop.toArray 115)).heap[w.heap.size]? = some (.cells zop.toArray 115 (0, 0)) := heap_alloc_new _ _
 have hs0 : (w.alloc (.cells zop.toArray 115)).heap.size = w.heap.size + 1 := by simp
 have dW := (hb0.cell (p := ⟨b, off, none⟩) hbb).trans d0
 have R0 := hide r0
 have HS := hide hs0
 clear r0 hs0 d0
 have i0 : (0 : Int) < zs.length := by omega
 generalize hx : zs[0]?.getD 0 = x at *
 have HX := hide hx
 clear hx
 by_cases c1 : x = 1
 ·have t1 : (x == 1) = true := by simp [c1]
  have C1 := hide c1
  clear c1 h2
  go_enter Tryz.func133, Tryz.ntmps133
  go_wp2_with fail
  exact bodyPost_ret (v := .agg #[.int .u8 1, .slice none 0 0]) (by simp [results, Tryz.results133, go_sem]) rfl ⟨by simpa using (Below.refl w.heap.size w).alloc (Nat.le_refl _) _, .slice none 0 0, rfl, .inl ⟨rfl, rfl⟩⟩
 ·have t1 : (x == 1) = false := by simp [c1]
  have C1 := hide c1
  have h22 := h2 c1
  clear c1 h2
  have i2 : (2 : Int) ≤ zs.length := by omega
  have i2c : (zs.length : Int) ≤ cap := by omega
  go_enter Tryz.func133, Tryz.ntmps133
  go_upto_region 3 with fail
  generalize w.alloc (.cells zop.toArray 115) = W0 at *
  refine anyT_begin (R := But (fun b => b = w.heap.size)) 8 rfl (by kernel_rfl) ?_
  have hd : Later W0 W0.drew := Later.drew W0
  have hb1 := hb0.trans (hd.mono hb0.size)
  have r1 := later_keep hd R0.out
  have hs1 : w.heap.size + 1 ≤ W0.drew.heap.size := by have := hd.size; have := HS.out; omega
  have dV : ∀ v1, But (fun b => b = w.heap.size) W0.drew v1 → v1.cell? ⟨b, off, none⟩ = some (.int .u8 x) := fun v1 h => h.cell ((hd.cell dW)) (by simp; omega)
  clear dW R0 HS
  generalize W0.drew = W1 at *
  refine tV (But.pre _) 0 rfl rfl ?_; apply Exists.intro; refine ⟨fun v1 hv1 => ?_, ?_⟩; (· (go_simp; rfl)); simp only [Act.put, sA, sB, sC]
  refine tV (But.pre _) 1 rfl rfl ?_; apply Exists.intro; refine ⟨fun v1 hv1 => ?_, ?_⟩; (· (go_simp; rfl)); simp only [Act.put, sA, sB, sC]
  refine tV (But.pre _) 2 rfl rfl ?_; apply Exists.intro; refine ⟨fun v1 hv1 => ?_, ?_⟩; (· (go_simp; rfl)); simp only [Act.put, sA, sB, sC]
  refine tV (But.pre _) 3 rfl rfl ?_; apply Exists.intro; refine ⟨fun v1 hv1 => ?_, ?_⟩; (· (go_simp; rfl)); simp only [Act.put, sA, sB, sC]
  refine tV (But.pre _) 4 rfl rfl ?_; apply Exists.intro; refine ⟨fun v1 hv1 => ?_, ?_⟩; (· (go_simp; rfl)); simp only [Act.put, sA, sB, sC]
  have hs8 := (hI.below hb1).cutAt 2 (by omega)
  generalize (if cap = 2 then some (⟨b, off, none⟩ : Addr) else some ⟨b, off + 2, none⟩) = ad2 at *
  clear dV
  refine anyT_one 5 rfl (by kernel_rfl) rfl ?_
  refine wp_enter 50 #[.slice ad2 (zs.length - 2) (cap - 2)] (by go_simp) ?_
  refine (cloneb_any _ (zs.drop 2) W1 (by simp; omega) (hs8.mono hb1.size)).mono ?_
  rw [List.length_drop]
  rintro e W2 ⟨a2, c2, rfl, hO2, hb2⟩
  refine ⟨But.of hb2, ?_⟩
  simp only [Act.put, sA, sB, sC]
  have r2 := later_keep hb2 r1
  have R2 := block_cell r2
  have F2 := block_frozen r2
  have hw2 := hb1.trans (hb2.mono hb1.size)
  refine anyT_one 6 rfl (by kernel_rfl) rfl ?_
  unfold Oper.wp
  go_simp
  refine ⟨But.refl _ _, ?_⟩
  refine anyT_one 7 rfl (by kernel_rfl) rfl ?_
  unfold Oper.wp
  go_simp
  generalize hV : (W2.setCell ⟨w.heap.size, 0, none⟩ _).setCell ⟨w.heap.size, 1, none⟩ _ = V8
  have hV9 : V8 = putRow W2 (w.heap.size) 0 [.int .u8 x, .slice a2 (zs.length - 2) c2] := hV.symm
  have hb8 : But (fun b => b = w.heap.size) W2 V8 := by rw [hV9]; exact putRow_but (E := fun b => b = w.heap.size) (n := w.heap.size) rfl _ _ _ _ (But.refl _ _)
  have p8 := putRow_all [.int .u8 x, .slice a2 (zs.length - 2) c2] r2 rfl
  rw [← hV9] at p8
  clear hV hV9 R2 F2
  refine ⟨hb8, ?_⟩
  refine anyT_done (by kernel_rfl) ?_
  have P8 := block_cell p8
  have hw8 : Below w.heap.size w V8 := hw2.trans (hb8.below hw2.size (fun k h e => by omega))
  go_wp2_with fail
  exact bodyPost_ret (v := .agg #[.int .u8 x, .slice a2 (zs.length - 2) c2]) (by simp [results, Tryz.results133, go_sem, P8]) rfl ⟨hw8, .slice a2 (zs.length - 2) c2, rfl, (hO2.but hb8 (fun b h e => by omega)).mono (by omega)⟩
end Go.Proofs.YtghpakfjpdifaaaGreatDoor
