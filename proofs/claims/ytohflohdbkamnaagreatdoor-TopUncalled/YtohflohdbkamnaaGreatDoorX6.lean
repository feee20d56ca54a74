/- Several texts in one. -/
import Derived.Test.YtohflohdbkamnaaGreatDoorX7
import Derived.Test.YtohflohdbkamnaaGreatDoorX11
import Derived.Test.YtohflohdbkamnaaGreatDoorX10
import Derived.ScopeJumps
/- Layer 5: Of, of a datagram. -/
namespace Go.Proofs.YtohflohdbkamnaaGreatDoor
open Go.RowKit Go.Shelf
set_option maxRecDepth 100000
set_option linter.unusedVariables false
set_option linter.unusedSimpArgs false

theorem run_store_fn (P : Program) (w : World) (a : Addr) (m : Mode) (f : Fn) (xs ys : Array Value) : (store a (.func f xs ys) m).run P w = stored P w a (.func f xs ys) m := run_store P w a _ m rfl

end Go.Proofs.YtohflohdbkamnaaGreatDoor

/- Layer 5: Of, of any packet whose protocol has a reader; of one that has none. -/
namespace Go.Proofs.YtohflohdbkamnaaGreatDoor
open Go.RowKit Go.Shelf
set_option maxRecDepth 100000
set_option linter.unusedVariables false
set_option linter.unusedSimpArgs false

theorem otv_no {e0 : Int} (h : e0 ≠ 0) (proto src dst a b : Int) : otv e0 proto src dst a b = .agg #[.int .u8 0, .int .u32 0, .int .u32 0, .int .u16 0, .int .u16 0] := if_neg h

set_option maxHeartbeats 4000000 in
theorem of_gen (pr x y e0 : Int) (fw fb : FuncId) (tos id ttl src dst : Int) (keep : Bool) (so : Value) (ad : Option Addr) (ld cd : Nat) (w : World)
    (hlk0 : ∀ (w : World) (b : Nat), w.heap[b]? = some (.map rdE 4) → (Instr.lookup 243 (.map (some b)) (.int .u8 pr) true).run Tryz.prog w = .ok (.tuple #[.agg #[.func (.func fw) #[] #[], .func (.func fb) #[] #[]], .bool true]) w)
    (hcf : ∀ (args : Array Value) (w : World), (callFunc fw args).run Tryz.prog w = .ok (.enter fw args) w)
    (hf : ∀ w', Below w.heap.size w w' → Calls Tryz.prog fw #[.agg #[.int .u8 tos, .int .u16 id, .bool keep, .int .u8 ttl, .int .u8 pr, .int .u32 src, .int .u32 dst, so, .slice ad ld cd]] w' fun e w'' => Below w'.heap.size w' w'' ∧ ∃ a b : Int, e = .returned (.tuple #[.agg #[.int .u16 a, .int .u16 b], .int .i64 e0]) ∧ (e0 = 0 → a = x ∧ b = y)) :
    Calls Tryz.prog 79 #[.agg #[.int .u8 tos, .int .u16 id, .bool keep, .int .u8 ttl, .int .u8 pr, .int .u32 src, .int .u32 dst, so, .slice ad ld cd]] w fun e w' => Below w.heap.size w w' ∧ e = .returned (.tuple #[otv e0 pr src dst x y, .int .i64 e0]) := by
  have hb0 : Below w.heap.size w ((w.alloc (.cells #[.int .u8 tos, .int .u16 id, .bool keep, .int .u8 ttl, .int .u8 pr, .int .u32 src, .int .u32 dst, so, .slice ad ld cd] 78)).alloc (.cells #[.int .u8 0, .int .u32 0, .int .u32 0, .int .u16 0, .int .u16 0] 69)) := ((Below.refl _ _).alloc (Nat.le_refl _) _).alloc (by simp) _
  have p0 : ((w.alloc (.cells #[.int .u8 tos, .int .u16 id, .bool keep, .int .u8 ttl, .int .u8 pr, .int .u32 src, .int .u32 dst, so, .slice ad ld cd] 78)).alloc (.cells #[.int .u8 0, .int .u32 0, .int .u32 0, .int .u16 0, .int .u16 0] 69)).heap[w.heap.size]? = some (.cells #[.int .u8 tos, .int .u16 id, .bool keep, .int .u8 ttl, .int .u8 pr, .int .u32 src, .int .u32 dst, so, .slice ad ld cd] 78) := (Below.heap_alloc _ _ _ (by simp)).trans (heap_alloc_new w _)
  have r0 := heap_alloc_new (w.alloc (.cells #[.int .u8 tos, .int .u16 id, .bool keep, .int .u8 ttl, .int .u8 pr, .int .u32 src, .int .u32 dst, so, .slice ad ld cd] 78)) (.cells #[.int .u8 0, .int .u32 0, .int .u32 0, .int .u16 0, .int .u16 0] 69)
  rw [World.size_alloc] at r0
  have hs0 : ((w.alloc (.cells #[.int .u8 tos, .int .u16 id, .bool keep, .int .u8 ttl, .int .u8 pr, .int .u32 src, .int .u32 dst, so, .slice ad ld cd] 78)).alloc (.cells #[.int .u8 0, .int .u32 0, .int .u32 0, .int .u16 0, .int .u16 0] 69)).heap.size = w.heap.size + 2 := by simp
  have HS0 := hide hs0
  have P0 := hide p0
  have R0 := hide r0
  clear r0 hs0 p0
  go_enter Tryz.func79, Tryz.ntmps79
  go_upto_region 1 with fail
  generalize (w.alloc (.cells #[.int .u8 tos, .int .u16 id, .bool keep, .int .u8 ttl, .int .u8 pr, .int .u32 src, .int .u32 dst, so, .slice ad ld cd] 78)).alloc (.cells #[.int .u8 0, .int .u32 0, .int .u32 0, .int .u16 0, .int .u16 0] 69) = w0 at *
  have hlt0 : w.heap.size + 1 < w0.heap.size := by have := HS0.out; omega
  have p0 := P0.out
  go_cut [4, 5] (fun q x wx => ∃ g, q = .pointer (some ⟨g, 0, none⟩) ∧ x = .bool true ∧ wx.heap[g]? = some (.cells #[.func (.func fw) #[] #[], .func (.func fb) #[] #[]] 241 (0, 0)) ∧ Below w0.heap.size w0 wx)
  case first =>
    refine anyT_begin (R := But (fun b => w0.heap.size ≤ b)) 10 rfl (by kernel_rfl) ?_
    have hd : Later w0 w0.drew := Later.drew w0
    have pd := (hd.block w.heap.size (Array.getElem?_eq_some_iff.1 p0).1).trans p0
    have bd : Below w0.heap.size w0 w0.drew := hd
    generalize w0.drew = Wd at *
    have ha : ∀ v1, But (fun b => w0.heap.size ≤ b) Wd v1 → ∀ i, v1.cell? ⟨w.heap.size, i, none⟩ = #[Value.int .u8 tos, .int .u16 id, .bool keep, .int .u8 ttl, .int .u8 pr, .int .u32 src, .int .u32 dst, so, .slice ad ld cd][i]? := fun v1 h => block_cell ((h.block w.heap.size (Array.getElem?_eq_some_iff.1 pd).1 (by omega)).trans pd)
    have hz : w0.heap.size ≤ Wd.heap.size := bd.size
    refine anyT_val (But.pre _) 1 rfl (by kernel_rfl) (by kernel_rfl) (by kernel_rfl) (fun _ _ _ _ h => h) rfl ?_; apply Exists.intro; refine ⟨fun v1 hv1 => ?_, ?_⟩; (· (go_simp; rfl)); simp only [Act.put, List.setIfInBounds_toArray, List.set_cons_zero, List.set_cons_succ]
    refine anyT_val (But.pre _) 2 rfl (by kernel_rfl) (by kernel_rfl) (by kernel_rfl) (fun _ _ _ _ h => h) rfl ?_; apply Exists.intro; refine ⟨fun v1 hv1 => ?_, ?_⟩; (· (go_simp; rfl)); simp only [Act.put, List.setIfInBounds_toArray, List.set_cons_zero, List.set_cons_succ]
    refine anyT_two 0 7 rfl rfl (by kernel_rfl) rfl rfl ?_ ?_
    · skip
      refine wp_enter 126 #[] (by go_simp) ?_
      refine (readers_any Wd).mono ?_
      rintro e W3 ⟨m, rfl, hb3, hM3⟩
      have l3 : Later Wd W3 := hb3
      refine ⟨But.of l3, ?_⟩
      simp only [Act.put, List.setIfInBounds_toArray, List.set_cons_zero, List.set_cons_succ]
      have hlk := hlk0 _ _ hM3
      refine anyT_two 3 7 rfl rfl (by kernel_rfl) rfl rfl ?_ ?_
      · unfold Oper.wp
        go_simp
        refine ⟨But.refl _ _, ?_⟩
        clear hlk
        refine anyT_val (But.pre _) 4 rfl (by kernel_rfl) (by kernel_rfl) (by kernel_rfl) (fun _ _ _ _ h => h) rfl ?_; apply Exists.intro; refine ⟨fun v1 hv1 => ?_, ?_⟩; (· (go_simp; rfl)); simp only [Act.put, List.setIfInBounds_toArray, List.set_cons_zero, List.set_cons_succ]
        refine anyT_val (But.pre _) 5 rfl (by kernel_rfl) (by kernel_rfl) (by kernel_rfl) (fun _ _ _ _ h => h) rfl ?_; apply Exists.intro; refine ⟨fun v1 hv1 => ?_, ?_⟩; (· (go_simp; rfl)); simp only [Act.put, List.setIfInBounds_toArray, List.set_cons_zero, List.set_cons_succ]
        refine anyT_val (But.pre _) 6 rfl (by kernel_rfl) (by kernel_rfl) (by kernel_rfl) (fun _ _ _ _ h => h) rfl ?_; apply Exists.intro; refine ⟨fun v1 hv1 => ?_, ?_⟩; (· (go_simp; rfl)); simp only [Act.put, List.setIfInBounds_toArray, List.set_cons_zero, List.set_cons_succ]
        refine anyT_one 7 rfl (by kernel_rfl) rfl ?_
        unfold Oper.wp
        go_simp
        have l4 : Later W3 (W3.alloc (.cells #[.nilFunc, .nilFunc] 241)) := (Below.refl _ _).alloc (Nat.le_refl _) _
        have g4 := heap_alloc_new W3 (.cells #[.nilFunc, .nilFunc] 241)
        have b4 : Below w0.heap.size w0 (W3.alloc (.cells #[.nilFunc, .nilFunc] 241)) := (bd.trans (l3.mono hz)).trans (l4.mono (Nat.le_trans hz l3.size))
        have hge : w0.heap.size ≤ W3.heap.size := Nat.le_trans hz l3.size
        refine ⟨But.of l4, ?_⟩
        generalize W3.alloc (.cells #[.nilFunc, .nilFunc] 241) = W4 at *
        generalize W3.heap.size = g at *
        have kg := block_cell g4
        have fg := block_frozen g4
        have hsf := run_store_fn Tryz.prog
        refine anyT_one 8 rfl (by kernel_rfl) rfl ?_
        unfold Oper.wp
        go_simp
        generalize hV : (W4.setCell ⟨g, 0, none⟩ _).setCell ⟨g, 1, none⟩ _ = V
        have hV8 : V = putRow W4 (g) 0 [.func (.func fw) #[] #[], .func (.func fb) #[] #[]] := hV.symm
        have hbV : But (fun b => w0.heap.size ≤ b) W4 V := by rw [hV8]; exact putRow_but (E := fun b => w0.heap.size ≤ b) (n := g) hge _ _ _ _ (But.refl _ _)
        have pV := putRow_all [Value.func (.func fw) #[] #[], .func (.func fb) #[] #[]] g4 rfl
        rw [← hV8] at pV
        clear hV hV8 kg fg hsf
        refine ⟨hbV, ?_⟩
        refine anyT_one 9 rfl (by kernel_rfl) rfl ?_
        unfold Oper.wp
        go_simp
        refine ⟨But.refl _ _, ?_⟩
        refine anyT_done (by kernel_rfl) ?_
        have hbl : Below w0.heap.size w0 V := b4.trans (hbV.below b4.size (fun k hk e => by omega))
        clear ha
        go_wp2_with fail
        go_meet
        exact ⟨_, rfl, rfl, pV, hbl⟩
      · unfold Oper.wp
        go_simp
        have l4 : Later W3 (W3.alloc (.cells #[.nilFunc, .nilFunc] 241)) := (Below.refl _ _).alloc (Nat.le_refl _) _
        have g4 := heap_alloc_new W3 (.cells #[.nilFunc, .nilFunc] 241)
        have b4 : Below w0.heap.size w0 (W3.alloc (.cells #[.nilFunc, .nilFunc] 241)) := (bd.trans (l3.mono hz)).trans (l4.mono (Nat.le_trans hz l3.size))
        have hge : w0.heap.size ≤ W3.heap.size := Nat.le_trans hz l3.size
        have hM4 := (l4.block m (Array.getElem?_eq_some_iff.1 hM3).1).trans hM3
        refine ⟨But.of l4, ?_⟩
        clear hlk
        generalize W3.alloc (.cells #[.nilFunc, .nilFunc] 241) = W4 at *
        generalize W3.heap.size = g at *
        have hlk := hlk0 _ _ hM4
        refine anyT_one 3 rfl (by kernel_rfl) rfl ?_
        unfold Oper.wp
        go_simp
        refine ⟨But.refl _ _, ?_⟩
        clear hlk
        refine anyT_val (But.pre _) 4 rfl (by kernel_rfl) (by kernel_rfl) (by kernel_rfl) (fun _ _ _ _ h => h) rfl ?_; apply Exists.intro; refine ⟨fun v1 hv1 => ?_, ?_⟩; (· (go_simp; rfl)); simp only [Act.put, List.setIfInBounds_toArray, List.set_cons_zero, List.set_cons_succ]
        refine anyT_val (But.pre _) 5 rfl (by kernel_rfl) (by kernel_rfl) (by kernel_rfl) (fun _ _ _ _ h => h) rfl ?_; apply Exists.intro; refine ⟨fun v1 hv1 => ?_, ?_⟩; (· (go_simp; rfl)); simp only [Act.put, List.setIfInBounds_toArray, List.set_cons_zero, List.set_cons_succ]
        refine anyT_val (But.pre _) 6 rfl (by kernel_rfl) (by kernel_rfl) (by kernel_rfl) (fun _ _ _ _ h => h) rfl ?_; apply Exists.intro; refine ⟨fun v1 hv1 => ?_, ?_⟩; (· (go_simp; rfl)); simp only [Act.put, List.setIfInBounds_toArray, List.set_cons_zero, List.set_cons_succ]
        have kg := block_cell g4
        have fg := block_frozen g4
        have hsf := run_store_fn Tryz.prog
        refine anyT_one 8 rfl (by kernel_rfl) rfl ?_
        unfold Oper.wp
        go_simp
        generalize hV : (W4.setCell ⟨g, 0, none⟩ _).setCell ⟨g, 1, none⟩ _ = V
        have hV8 : V = putRow W4 (g) 0 [.func (.func fw) #[] #[], .func (.func fb) #[] #[]] := hV.symm
        have hbV : But (fun b => w0.heap.size ≤ b) W4 V := by rw [hV8]; exact putRow_but (E := fun b => w0.heap.size ≤ b) (n := g) hge _ _ _ _ (But.refl _ _)
        have pV := putRow_all [Value.func (.func fw) #[] #[], .func (.func fb) #[] #[]] g4 rfl
        rw [← hV8] at pV
        clear hV hV8 kg fg hsf
        refine ⟨hbV, ?_⟩
        refine anyT_one 9 rfl (by kernel_rfl) rfl ?_
        unfold Oper.wp
        go_simp
        refine ⟨But.refl _ _, ?_⟩
        refine anyT_done (by kernel_rfl) ?_
        have hbl : Below w0.heap.size w0 V := b4.trans (hbV.below b4.size (fun k hk e => by omega))
        clear ha
        go_wp2_with fail
        go_meet
        exact ⟨_, rfl, rfl, pV, hbl⟩
    · unfold Oper.wp
      go_simp
      have l4 : Later Wd (Wd.alloc (.cells #[.nilFunc, .nilFunc] 241)) := (Below.refl _ _).alloc (Nat.le_refl _) _
      have g4 := heap_alloc_new Wd (.cells #[.nilFunc, .nilFunc] 241)
      have b4 : Below w0.heap.size w0 (Wd.alloc (.cells #[.nilFunc, .nilFunc] 241)) := bd.trans (l4.mono hz)
      refine ⟨But.of l4, ?_⟩
      have hge : w0.heap.size ≤ Wd.heap.size := hz
      generalize Wd.alloc (.cells #[.nilFunc, .nilFunc] 241) = W4 at *
      generalize Wd.heap.size = g at *
      refine anyT_one 0 rfl (by kernel_rfl) rfl ?_
      refine wp_enter 126 #[] (by go_simp) ?_
      refine (readers_any W4).mono ?_
      rintro e W5 ⟨m, rfl, hb5, hM5⟩
      have l5 : Later W4 W5 := hb5
      have g5 := (l5.block g (Array.getElem?_eq_some_iff.1 g4).1).trans g4
      have b5 : Below w0.heap.size w0 W5 := b4.trans (l5.mono b4.size)
      refine ⟨But.of l5, ?_⟩
      simp only [Act.put, List.setIfInBounds_toArray, List.set_cons_zero, List.set_cons_succ]
      have hlk := hlk0 _ _ hM5
      refine anyT_one 3 rfl (by kernel_rfl) rfl ?_
      unfold Oper.wp
      go_simp
      refine ⟨But.refl _ _, ?_⟩
      clear hlk
      refine anyT_val (But.pre _) 4 rfl (by kernel_rfl) (by kernel_rfl) (by kernel_rfl) (fun _ _ _ _ h => h) rfl ?_; apply Exists.intro; refine ⟨fun v1 hv1 => ?_, ?_⟩; (· (go_simp; rfl)); simp only [Act.put, List.setIfInBounds_toArray, List.set_cons_zero, List.set_cons_succ]
      refine anyT_val (But.pre _) 5 rfl (by kernel_rfl) (by kernel_rfl) (by kernel_rfl) (fun _ _ _ _ h => h) rfl ?_; apply Exists.intro; refine ⟨fun v1 hv1 => ?_, ?_⟩; (· (go_simp; rfl)); simp only [Act.put, List.setIfInBounds_toArray, List.set_cons_zero, List.set_cons_succ]
      refine anyT_val (But.pre _) 6 rfl (by kernel_rfl) (by kernel_rfl) (by kernel_rfl) (fun _ _ _ _ h => h) rfl ?_; apply Exists.intro; refine ⟨fun v1 hv1 => ?_, ?_⟩; (· (go_simp; rfl)); simp only [Act.put, List.setIfInBounds_toArray, List.set_cons_zero, List.set_cons_succ]
      have kg := block_cell g5
      have fg := block_frozen g5
      have hsf := run_store_fn Tryz.prog
      refine anyT_one 8 rfl (by kernel_rfl) rfl ?_
      unfold Oper.wp
      go_simp
      generalize hV : (W5.setCell ⟨g, 0, none⟩ _).setCell ⟨g, 1, none⟩ _ = V
      have hV8 : V = putRow W5 (g) 0 [.func (.func fw) #[] #[], .func (.func fb) #[] #[]] := hV.symm
      have hbV : But (fun b => w0.heap.size ≤ b) W5 V := by rw [hV8]; exact putRow_but (E := fun b => w0.heap.size ≤ b) (n := g) hge _ _ _ _ (But.refl _ _)
      have pV := putRow_all [Value.func (.func fw) #[] #[], .func (.func fb) #[] #[]] g5 rfl
      rw [← hV8] at pV
      clear hV hV8 kg fg hsf
      refine ⟨hbV, ?_⟩
      refine anyT_one 9 rfl (by kernel_rfl) rfl ?_
      unfold Oper.wp
      go_simp
      refine ⟨But.refl _ _, ?_⟩
      refine anyT_done (by kernel_rfl) ?_
      have hbl : Below w0.heap.size w0 V := b5.trans (hbV.below b5.size (fun k hk e => by omega))
      clear ha
      go_wp2_with fail
      go_meet
      exact ⟨_, rfl, rfl, pV, hbl⟩
  case rest =>
    obtain ⟨g, rfl, rfl, hg, hbc⟩ := hcut
    have pc := (hbc.block w.heap.size (Array.getElem?_eq_some_iff.1 p0).1).trans p0
    have rc := (hbc.block _ (Array.getElem?_eq_some_iff.1 R0.out).1).trans R0.out
    have hwc := hb0.trans (hbc.mono hb0.size)
    have kg := block_cell hg
    have kp := block_cell pc
    go_wp2_with fail
    refine (hf wc hwc).mono ?_
    rintro e w5 ⟨hb5, u, v, rfl, hab⟩
    have HAB := hide hab
    clear hab
    have l6 : Later w5 (w5.alloc (.cells #[.int .u16 u, .int .u16 v] 246)) := (Below.refl _ _).alloc (Nat.le_refl _) _
    have l56 := Later.trans hb5 l6
    have p6 := (l56.block w.heap.size (Array.getElem?_eq_some_iff.1 pc).1).trans pc
    have r6 := (l56.block _ (Array.getElem?_eq_some_iff.1 rc).1).trans rc
    have hw6 := hwc.trans (l56.mono hwc.size)
    clear kg kp
    have kp := block_cell p6
    go_wp2_with fail
    generalize w5.alloc (.cells #[.int .u16 u, .int .u16 v] 246) = w6 at *
    refine (told_any tos id ttl pr src dst u v e0 keep so _ w6).mono ?_
    rintro e w7 ⟨hb7, ⟨hx, rfl⟩ | ⟨hx, rfl⟩⟩
    · have HX := hide hx
      clear hx
      have r7 := (Below.block hb7 _ (Array.getElem?_eq_some_iff.1 r6).1).trans r6
      have hw7 := hw6.trans (hb7.mono hw6.size)
      have k7 := block_cell r7
      have f7 := block_frozen r7
      clear kp
      go_wp2_with fail
      generalize hV : ((((w7.setCell ⟨w.heap.size + 1, 0, none⟩ _).setCell ⟨w.heap.size + 1, 1, none⟩ _).setCell ⟨w.heap.size + 1, 2, none⟩ _).setCell ⟨w.heap.size + 1, 3, none⟩ _).setCell ⟨w.heap.size + 1, 4, none⟩ _ = V
      have hV8 : V = putRow w7 (w.heap.size + 1) 0 [.int .u8 0, .int .u32 0, .int .u32 0, .int .u16 0, .int .u16 0] := hV.symm
      have hbV : But (fun b => b = w.heap.size + 1) w7 V := by rw [hV8]; exact putRow_but (E := fun b => b = w.heap.size + 1) (n := w.heap.size + 1) rfl _ _ _ _ (But.refl _ _)
      have pV := putRow_all ([.int .u8 0, .int .u32 0, .int .u32 0, .int .u16 0, .int .u16 0] : List Value) r7 rfl
      rw [← hV8] at pV
      clear hV hV8 k7 f7
      have PV := block_cell pV
      have hwV : Below w.heap.size w V := hw7.trans (hbV.below hw7.size (fun k hk e => by omega))
      exact bodyPost_ret (v := .tuple #[.agg #[.int .u8 0, .int .u32 0, .int .u32 0, .int .u16 0, .int .u16 0], .int .i64 e0]) (by simp [results, Tryz.results79, go_sem, PV]) rfl ⟨hwV, by rw [otv_no HX.out]⟩
    · subst hx
      obtain ⟨rfl, rfl⟩ := HAB.out rfl
      have r7 := (Below.block hb7 _ (Array.getElem?_eq_some_iff.1 r6).1).trans r6
      have hw7 := hw6.trans (hb7.mono hw6.size)
      have k7 := block_cell r7
      have f7 := block_frozen r7
      clear kp
      go_wp2_with fail
      generalize hV : ((((w7.setCell ⟨w.heap.size + 1, 0, none⟩ _).setCell ⟨w.heap.size + 1, 1, none⟩ _).setCell ⟨w.heap.size + 1, 2, none⟩ _).setCell ⟨w.heap.size + 1, 3, none⟩ _).setCell ⟨w.heap.size + 1, 4, none⟩ _ = V
      have hV8 : V = putRow w7 (w.heap.size + 1) 0 [.int .u8 pr, .int .u32 src, .int .u32 dst, .int .u16 u, .int .u16 v] := hV.symm
      have hbV : But (fun b => b = w.heap.size + 1) w7 V := by rw [hV8]; exact putRow_but (E := fun b => b = w.heap.size + 1) (n := w.heap.size + 1) rfl _ _ _ _ (But.refl _ _)
      have pV := putRow_all ([.int .u8 pr, .int .u32 src, .int .u32 dst, .int .u16 u, .int .u16 v] : List Value) r7 rfl
      rw [← hV8] at pV
      clear hV hV8 k7 f7
      have PV := block_cell pV
      have hwV : Below w.heap.size w V := hw7.trans (hbV.below hw7.size (fun k hk e => by omega))
      exact bodyPost_ret (v := .tuple #[.agg #[.int .u8 pr, .int .u32 src, .int .u32 dst, .int .u16 u, .int .u16 v], .int .i64 0]) (by simp [results, Tryz.results79, go_sem, PV]) rfl ⟨hwV, rfl⟩

theorem cf_tcp (args : Array Value) (w : World) : (callFunc 170 args).run Tryz.prog w = .ok (.enter 170 args) w := by kernel_rfl

theorem cf_udp (args : Array Value) (w : World) : (callFunc 172 args).run Tryz.prog w = .ok (.enter 172 args) w := by kernel_rfl

theorem cf_icmp (args : Array Value) (w : World) : (callFunc 173 args).run Tryz.prog w = .ok (.enter 173 args) w := by kernel_rfl

theorem cf_gre (args : Array Value) (w : World) : (callFunc 175 args).run Tryz.prog w = .ok (.enter 175 args) w := by kernel_rfl
end Go.Proofs.YtohflohdbkamnaaGreatDoor

/- Options of a segment: the mathematics of their bytes. -/
namespace Go.Proofs.YtohflohdbkamnaaGreatDoor
set_option maxRecDepth 100000
set_option linter.unusedVariables false
set_option linter.unusedSimpArgs false

/-- An option: its kind and its data. -/
abbrev Opt := Int × List Int
def ob1 (o : Opt) : List Int := if o.1 = 1 then [1] else o.1 :: (2 + (o.2.length : Int)) :: o.2
def okO (o : Opt) : Prop := o.1 ≠ 0 ∧ (o.1 = 1 → o.2 = [])
instance (o : Opt) : Decidable (okO o) := by unfold okO; exact inferInstance
def obs (os : List Opt) : List Int := os.flatMap ob1
def obOk (os : List Opt) : Prop := (∀ o ∈ os, okO o) ∧ (obs os).length ≤ 40
instance (os : List Opt) : Decidable (obOk os) := by unfold obOk; exact inferInstance
/-- Bytes as options; none: they are wrong. -/
def po : Nat → List Int → Option (List Opt)
  | 0, _ => none
  | _ + 1, [] => some []
  | n + 1, k :: r =>
    if k = 0 then (if ∀ x ∈ r, x = 0 then some [] else none)
    else if k = 1 then (po n r).map ((1, []) :: ·)
    else match r with
      | [] => none
      | s :: r' => if s < 2 ∨ (r'.length : Int) + 2 < s then none else (po n (r'.drop (s.toNat - 2))).map ((k, r'.take (s.toNat - 2)) :: ·)
theorem po_fuel : ∀ (n m : Nat) (l : List Int), l.length < n → l.length < m → po n l = po m l
  | 0, _, _, h, _ => by omega
  | _ + 1, 0, _, _, h => by omega
  | n + 1, m + 1, [], _, _ => rfl
  | n + 1, m + 1, k :: r, h, h' => by
    simp at h h'
    unfold po
    split
    · rfl
    split
    · rw [po_fuel n m r (by omega) (by omega)]
    cases r with
    | nil => rfl
    | cons s r' =>
      dsimp only
      split
      · rfl
      · rw [po_fuel n m (r'.drop (s.toNat - 2)) (by simp at h ⊢; omega) (by simp at h' ⊢; omega)]
def opts (zs : List Int) : Option (List Opt) := po (zs.length + 1) zs
theorem opts_zero (r : List Int) : opts (0 :: r) = if ∀ x ∈ r, x = 0 then some [] else none := by unfold opts po; rw [if_pos rfl]
theorem opts_one (r : List Int) : opts (1 :: r) = (opts r).map ((1, []) :: ·) := by
  show po ((r.length + 1) + 1) (1 :: r) = _
  unfold opts
  conv => lhs; unfold po
  rw [if_neg (by decide), if_pos rfl]
theorem opts_bare (k : Int) (h0 : k ≠ 0) (h1 : k ≠ 1) : opts [k] = none := by unfold opts po; rw [if_neg h0, if_neg h1]
theorem opts_wrong (k s : Int) (r : List Int) (h0 : k ≠ 0) (h1 : k ≠ 1) (h : s < 2 ∨ (r.length : Int) + 2 < s) : opts (k :: s :: r) = none := by
  unfold opts po; rw [if_neg h0, if_neg h1]; simp only; rw [if_pos h]
theorem opts_more (k s : Int) (r : List Int) (h0 : k ≠ 0) (h1 : k ≠ 1) (h : 2 ≤ s) (h' : s ≤ (r.length : Int) + 2) : opts (k :: s :: r) = (opts (r.drop (s.toNat - 2))).map ((k, r.take (s.toNat - 2)) :: ·) := by
  show po ((k :: s :: r).length + 1) (k :: s :: r) = _
  unfold opts
  conv => lhs; unfold po
  rw [if_neg h0, if_neg h1]
  simp only
  rw [if_neg (by omega), po_fuel _ ((r.drop (s.toNat - 2)).length + 1) (r.drop (s.toNat - 2)) (by simp; omega) (by omega)]

end Go.Proofs.YtohflohdbkamnaaGreatDoor

/- Package segs: options as they lie in memory; which are right, how long they are. -/
namespace Go.Proofs.YtohflohdbkamnaaGreatDoor
open Go.RowKit Go.Shelf
set_option maxRecDepth 100000
set_option linter.unusedVariables false
set_option linter.unusedSimpArgs false

/-- The slice value reads as these options, all of it below block n₀. -/
def RdO (n₀ : Nat) (W : World) (sv : Value) (os : List Opt) : Prop :=
  (∃ a cap, sv = .slice a 0 cap ∧ os = [] ∧ cap ≤ 9223372036854775807 ∧ (a = none → cap = 0)) ∨
  ∃ b off cap, sv = .slice (some ⟨b, off, none⟩) os.length cap ∧ os ≠ [] ∧ os.length ≤ cap ∧ cap ≤ 9223372036854775807 ∧ b < n₀ ∧
    ∀ j, j < os.length → ∃ s, W.cell? ⟨b, off + j * 2, none⟩ = some (.int .u8 (os[j]?.getD (0, [])).1) ∧ W.cell? ⟨b, off + j * 2 + 1, none⟩ = some s ∧ Rd n₀ W s (os[j]?.getD (0, [])).2
theorem RdO.below {n₀ : Nat} {A B : World} (h : Below n₀ A B) {sv : Value} {os : List Opt} : RdO n₀ A sv os → RdO n₀ B sv os
  | .inl e => .inl e
  | .inr ⟨b, off, cap, e, hne, hl, hm, hb, hc⟩ => .inr ⟨b, off, cap, e, hne, hl, hm, hb, fun j hj => let ⟨s, h1, h2, h3⟩ := hc j hj; ⟨s, (h.cell (p := ⟨b, off + j * 2, none⟩) hb).trans h1, (h.cell (p := ⟨b, off + j * 2 + 1, none⟩) hb).trans h2, h3.below h⟩⟩
theorem RdO.mono {n₀ n₁ : Nat} {A : World} (h : n₀ ≤ n₁) {sv : Value} {os : List Opt} : RdO n₀ A sv os → RdO n₁ A sv os
  | .inl e => .inl e
  | .inr ⟨b, off, cap, e, hne, hl, hm, hb, hc⟩ => .inr ⟨b, off, cap, e, hne, hl, hm, Nat.lt_of_lt_of_le hb h, fun j hj => let ⟨s, h1, h2, h3⟩ := hc j hj; ⟨s, h1, h2, h3.mono h⟩⟩
theorem RdO.slice {n₀ : Nat} {A : World} {sv : Value} {os : List Opt} : RdO n₀ A sv os → ∃ a cap, sv = .slice a os.length cap ∧ os.length ≤ cap ∧ cap ≤ 9223372036854775807
  | .inl ⟨a, cap, e, hz, hm, _⟩ => ⟨a, cap, by rw [e, hz]; rfl, by rw [hz]; exact Nat.zero_le _, hm⟩
  | .inr ⟨b, off, cap, e, _, hl, hm, _⟩ => ⟨_, cap, e, hl, hm⟩
theorem RdO.cells {n₀ : Nat} {W : World} {sv : Value} {os : List Opt} (h : RdO n₀ W sv os) (hne : 0 < os.length) : ∃ b off cap, sv = .slice (some ⟨b, off, none⟩) os.length cap ∧ os.length ≤ cap ∧ cap ≤ 9223372036854775807 ∧ b < n₀ ∧
    ∀ j, j < os.length → ∃ s, W.cell? ⟨b, off + j * 2, none⟩ = some (.int .u8 (os[j]?.getD (0, [])).1) ∧ W.cell? ⟨b, off + j * 2 + 1, none⟩ = some s ∧ Rd n₀ W s (os[j]?.getD (0, [])).2 := by
  rcases h with ⟨a, cap, _, rfl, _⟩ | ⟨b, off, cap, e, _, hl, hm, hb, hc⟩
  · simp at hne
  · exact ⟨b, off, cap, e, hl, hm, hb, hc⟩

section
variable {P : Program} {l : List Oper} {Q : Exit → Act → World → Prop} {fuel : Nat} {listed : Array Bool} {a : Act} {w : World} {R : World → World → Prop}
end
end Go.Proofs.YtohflohdbkamnaaGreatDoor

/- Package segs: the bytes of options. -/
namespace Go.Proofs.YtohflohdbkamnaaGreatDoor
open Go.RowKit Go.Shelf
set_option maxRecDepth 100000
set_option linter.unusedVariables false
set_option linter.unusedSimpArgs false

theorem HSt.below {tl : List Value} {t : TypeId} {ub : Nat} {N : Nat → Prop} {ys : List Int} {W W' : World} (h : HSt tl t ub N ys W) (l : Later W W') : HSt tl t ub N ys W' := by
  obtain ⟨v, h1, h2, h3⟩ := h
  refine ⟨v, (l.block ub (Array.getElem?_eq_some_iff.1 h1).1).trans h1, ⟨h2.1, h2.2.imp id ?_⟩, h3⟩
  rintro ⟨g, cap, cur, e, hg, hh, r⟩
  exact ⟨g, cap, cur, e, hg, (l.block g (Array.getElem?_eq_some_iff.1 hh).1).trans hh, r⟩
theorem HSt.cell {tl : List Value} {t : TypeId} {ub : Nat} {N : Nat → Prop} {ys : List Int} {W : World} (h : HSt tl t ub N ys W) : ∃ a c, W.cell? ⟨ub, 0, none⟩ = some (.slice a ys.length c) ∧ Ow (ub + 1) W (.slice a ys.length c) ys ∧ ys.length ≤ c := by
  obtain ⟨v, h1, h2, h3⟩ := h
  have hO := Ow.of_row h2
  obtain ⟨a, c, rfl, hc, _⟩ := hO.slice
  exact ⟨a, c, by have := block_cell h1 0; simpa using this, hO, hc⟩

end Go.Proofs.YtohflohdbkamnaaGreatDoor

/- Package segs: the packet with a segment. -/
namespace Go.Proofs.YtohflohdbkamnaaGreatDoor
open Go.RowKit Go.Shelf
set_option maxRecDepth 100000
set_option linter.unusedVariables false
set_option linter.unusedSimpArgs false

end Go.Proofs.YtohflohdbkamnaaGreatDoor

/- Package segs: the walk over a header's options. -/
namespace Go.Proofs.YtohflohdbkamnaaGreatDoor
open Go.RowKit Go.Shelf
set_option maxRecDepth 100000
attribute [local go_sem] Oper.semAt_some
set_option linter.unusedVariables false
set_option linter.unusedSimpArgs false

theorem uncons {α : Type} {n : Nat} {l : List α} (h : l.length = n + 1) : ∃ a r, l = a :: r ∧ r.length = n := by
  cases l with
  | nil => simp at h
  | cons a r => exact ⟨a, r, rfl, by simpa using h⟩
theorem list49 {α : Type} {l : List α} (h : l.length = 49) : ∃ v0 v1 v2 v3 v4 v5 v6 v7 v8 v9 v10 v11 v12 v13 v14 v15 v16 v17 v18 v19 v20 v21 v22 v23 v24 v25 v26 v27 v28 v29 v30 v31 v32 v33 v34 v35 v36 v37 v38 v39 v40 v41 v42 v43 v44 v45 v46 v47 v48, l = [v0, v1, v2, v3, v4, v5, v6, v7, v8, v9, v10, v11, v12, v13, v14, v15, v16, v17, v18, v19, v20, v21, v22, v23, v24, v25, v26, v27, v28, v29, v30, v31, v32, v33, v34, v35, v36, v37, v38, v39, v40, v41, v42, v43, v44, v45, v46, v47, v48] := by
  obtain ⟨v0, l0, rfl, h0⟩ := uncons h
  obtain ⟨v1, l1, rfl, h1⟩ := uncons h0
  obtain ⟨v2, l2, rfl, h2⟩ := uncons h1
  obtain ⟨v3, l3, rfl, h3⟩ := uncons h2
  obtain ⟨v4, l4, rfl, h4⟩ := uncons h3
  obtain ⟨v5, l5, rfl, h5⟩ := uncons h4
  obtain ⟨v6, l6, rfl, h6⟩ := uncons h5
  obtain ⟨v7, l7, rfl, h7⟩ := uncons h6
  obtain ⟨v8, l8, rfl, h8⟩ := uncons h7
  obtain ⟨v9, l9, rfl, h9⟩ := uncons h8
  obtain ⟨v10, l10, rfl, h10⟩ := uncons h9
  obtain ⟨v11, l11, rfl, h11⟩ := uncons h10
  obtain ⟨v12, l12, rfl, h12⟩ := uncons h11
  obtain ⟨v13, l13, rfl, h13⟩ := uncons h12
  obtain ⟨v14, l14, rfl, h14⟩ := uncons h13
  obtain ⟨v15, l15, rfl, h15⟩ := uncons h14
  obtain ⟨v16, l16, rfl, h16⟩ := uncons h15
  obtain ⟨v17, l17, rfl, h17⟩ := uncons h16
  obtain ⟨v18, l18, rfl, h18⟩ := uncons h17
  obtain ⟨v19, l19, rfl, h19⟩ := uncons h18
  obtain ⟨v20, l20, rfl, h20⟩ := uncons h19
  obtain ⟨v21, l21, rfl, h21⟩ := uncons h20
  obtain ⟨v22, l22, rfl, h22⟩ := uncons h21
  obtain ⟨v23, l23, rfl, h23⟩ := uncons h22
  obtain ⟨v24, l24, rfl, h24⟩ := uncons h23
  obtain ⟨v25, l25, rfl, h25⟩ := uncons h24
  obtain ⟨v26, l26, rfl, h26⟩ := uncons h25
  obtain ⟨v27, l27, rfl, h27⟩ := uncons h26
  obtain ⟨v28, l28, rfl, h28⟩ := uncons h27
  obtain ⟨v29, l29, rfl, h29⟩ := uncons h28
  obtain ⟨v30, l30, rfl, h30⟩ := uncons h29
  obtain ⟨v31, l31, rfl, h31⟩ := uncons h30
  obtain ⟨v32, l32, rfl, h32⟩ := uncons h31
  obtain ⟨v33, l33, rfl, h33⟩ := uncons h32
  obtain ⟨v34, l34, rfl, h34⟩ := uncons h33
  obtain ⟨v35, l35, rfl, h35⟩ := uncons h34
  obtain ⟨v36, l36, rfl, h36⟩ := uncons h35
  obtain ⟨v37, l37, rfl, h37⟩ := uncons h36
  obtain ⟨v38, l38, rfl, h38⟩ := uncons h37
  obtain ⟨v39, l39, rfl, h39⟩ := uncons h38
  obtain ⟨v40, l40, rfl, h40⟩ := uncons h39
  obtain ⟨v41, l41, rfl, h41⟩ := uncons h40
  obtain ⟨v42, l42, rfl, h42⟩ := uncons h41
  obtain ⟨v43, l43, rfl, h43⟩ := uncons h42
  obtain ⟨v44, l44, rfl, h44⟩ := uncons h43
  obtain ⟨v45, l45, rfl, h45⟩ := uncons h44
  obtain ⟨v46, l46, rfl, h46⟩ := uncons h45
  obtain ⟨v47, l47, rfl, h47⟩ := uncons h46
  obtain ⟨v48, l48, rfl, h48⟩ := uncons h47
  obtain rfl : l48 = [] := List.eq_nil_of_length_eq_zero h48
  exact ⟨v0, v1, v2, v3, v4, v5, v6, v7, v8, v9, v10, v11, v12, v13, v14, v15, v16, v17, v18, v19, v20, v21, v22, v23, v24, v25, v26, v27, v28, v29, v30, v31, v32, v33, v34, v35, v36, v37, v38, v39, v40, v41, v42, v43, v44, v45, v46, v47, v48, rfl⟩

set_option maxHeartbeats 1000000 in
theorem notZero_any (x : Int) (w : World) : Calls Tryz.prog 294 #[.int .u8 x] w fun e w' => e = .returned (.bool (x != 0)) ∧ w' = w := by
  go_enter Tryz.func294, Tryz.ntmps294
  go_wp2
  go_ret
  exact ⟨rfl, rfl⟩

set_option maxHeartbeats 1000000 in
theorem idxb_any (n₀ : Nat) (sv : Value) (zs : List Int) (w : World) (hI : Rd n₀ w sv zs) (hl : zs.length ≤ 140737488355328) :
    Calls Tryz.prog 295 #[sv, .func (.func 294) #[] #[]] w fun e w' => w' = w ∧ (((∀ x ∈ zs, x = 0) ∧ e = .returned (.int .i64 (-1))) ∨ ((¬ ∀ x ∈ zs, x = 0) ∧ ∃ k : Nat, k < zs.length ∧ e = .returned (.int .i64 (k : Int)))) := by
  obtain ⟨a, cap, rfl, hc1, hc2⟩ := hI.slice
  go_enter Tryz.func295, Tryz.ntmps295
  go_wp2
  go_loopw [8] (fun i wr => ∃ k : Nat, k ≤ zs.length ∧ i = .int .i64 (k : Int) ∧ (∀ j, j < k → zs[j]?.getD 0 = 0) ∧ wr = w) (fun i _ => zs.length - (intOf i).toNat)
  case atStart => exact ⟨0, by omega, rfl, fun j h => by omega, rfl⟩
  case round =>
    obtain ⟨k, hk, rfl, hz, rfl⟩ := hrel
    by_cases hlt : k < zs.length
    · obtain ⟨b, off, cp, e, _, _, hbb, hcs⟩ := hI.cells (by omega)
      simp at e
      obtain ⟨rfl, rfl⟩ := e
      have c0 := hcs k hlt
      have hlt' : (k : Int) < zs.length := by omega
      have HX : Hid (zs[k]?.getD 0 = zs[k]?.getD 0) := rfl
      generalize hx : zs[k]?.getD 0 = x at c0
      have HXX := hide hx
      have HZ := hide hz
      clear hx hcs hz
      go_wp2_with fail
      refine (notZero_any x _).mono ?_
      rintro e w' ⟨rfl, rfl⟩
      cases hx0 : (x != 0) with
      | true =>
        have hne : x ≠ 0 := by simpa using hx0
        clear hx0
        go_wp2_with fail
        go_ret
        refine ⟨rfl, .inr ⟨fun h => hne ?_, k, hlt, rfl⟩⟩
        rw [← HXX.out]
        have := h (zs[k]?.getD 0) (by simp [hlt])
        exact this
      | false =>
        have hne : x = 0 := by simpa using hx0
        have HNE := hide hne
        clear hx0 hne
        go_wp2_with fail
        go_roundw
        case rel => exact ⟨k + 1, by omega, by go_num, fun j hj => by by_cases h : j = k; (subst h; rw [HXX.out]; exact HNE.out); exact HZ.out j (by omega), trivial⟩
        case measure => simp [intOf]; omega
    · obtain rfl : k = zs.length := by omega
      have HZ := hide hz
      clear hz
      go_wp2_with fail
      go_ret
      refine ⟨rfl, .inl ⟨fun x hx => ?_, rfl⟩⟩
      obtain ⟨j, hj, rfl⟩ := List.getElem_of_mem hx
      have := HZ.out j hj
      simpa [hj] using this

def azb (zs : List Int) : Bool := decide (∀ x ∈ zs, x = 0)
set_option maxHeartbeats 1000000 in
theorem blank_any (n₀ : Nat) (sv : Value) (zs : List Int) (w : World) (hI : Rd n₀ w sv zs) (hl : zs.length ≤ 140737488355328) :
    Calls Tryz.prog 287 #[sv] w fun e w' => e = .returned (.bool (azb zs)) ∧ w' = w := by
  obtain ⟨a, cap, rfl, hc1, hc2⟩ := hI.slice
  have hcf : Calls Tryz.prog 293 #[.slice a zs.length cap, .func (.func 294) #[] #[]] w fun e w' => e = .returned (.bool (!azb zs)) ∧ w' = w := by
    go_enter Tryz.func293, Tryz.ntmps293
    go_wp2_with fail
    refine (idxb_any n₀ _ zs w hI hl).mono ?_
    rintro e w' ⟨rfl, ⟨hz, rfl⟩ | ⟨hz, k, hk, rfl⟩⟩
    · go_wp2
      go_ret
      exact ⟨by unfold azb; rw [decide_eq_true hz]; rfl, rfl⟩
    · go_wp2
      go_ret
      refine ⟨?_, rfl⟩
      unfold azb
      rw [decide_eq_false hz]
      simp
  go_enter Tryz.func287, Tryz.ntmps287
  go_wp2_with fail
  refine hcf.mono ?_
  rintro e w' ⟨rfl, rfl⟩
  go_wp2
  go_ret
  exact ⟨by simp, rfl⟩
end Go.Proofs.YtohflohdbkamnaaGreatDoor

/- Package segs: one option out of its bytes. -/
namespace Go.Proofs.YtohflohdbkamnaaGreatDoor
open Go.RowKit Go.Shelf
set_option maxRecDepth 100000
set_option linter.unusedVariables false
set_option linter.unusedSimpArgs false

abbrev zop : List Value := [.int .u8 0, .slice none 0 0]

set_option maxHeartbeats 2000000 in
theorem optionOf_any (sv : Value) (zs : List Int) (w : World) (hI : Rd w.heap.size w sv zs) (hB : Mt.By zs) (hl : zs.length ≤ 140737488355328) (h1 : 0 < zs.length) (h2 : zs[0]?.getD 0 ≠ 1 → 2 ≤ zs.length) :
    Calls Tryz.prog 288 #[sv] w fun e w' => Below w.heap.size w w' ∧ ∃ s, e = .returned (.agg #[.int .u8 (zs[0]?.getD 0), s]) ∧ Ow w.heap.size w' s (if zs[0]?.getD 0 = 1 then [] else zs.drop 2) := by
  obtain ⟨b, off, cap, rfl, hc1, hc2, hbb, hcs⟩ := hI.cells h1
  have d0 := hcs 0 h1
  rw [Nat.add_zero] at d0
  clear hcs
  have hb0 : Below w.heap.size w (w.alloc (.cells zop.toArray 283)) := (Below.refl _ _).alloc (Nat.le_refl _) _
  have r0 : (w.alloc (.cells zop.toArray 283)).heap[w.heap.size]? = some (.cells zop.toArray 283 (0, 0)) := heap_alloc_new _ _
  have hs0 : (w.alloc (.cells zop.toArray 283)).heap.size = w.heap.size + 1 := by simp
  have dW := (hb0.cell (p := ⟨b, off, none⟩) hbb).trans d0
  have R0 := hide r0
  have HS := hide hs0
  clear r0 hs0 d0
  have i0 : (0 : Int) < zs.length := by omega
  generalize hx : zs[0]?.getD 0 = x at *
  have HX := hide hx
  clear hx
  by_cases c1 : x = 1
  · have t1 : (x == 1) = true := by simp [c1]
    have C1 := hide c1
    clear c1 h2
    go_enter Tryz.func288, Tryz.ntmps288
    go_wp2_with fail
    exact bodyPost_ret (v := .agg #[.int .u8 1, .slice none 0 0]) (by simp [results, Tryz.results288, go_sem]) rfl ⟨by simpa using (Below.refl w.heap.size w).alloc (Nat.le_refl _) _, .slice none 0 0, rfl, .inl ⟨rfl, rfl⟩⟩
  · have t1 : (x == 1) = false := by simp [c1]
    have C1 := hide c1
    have h22 := h2 c1
    clear c1 h2
    have i2 : (2 : Int) ≤ zs.length := by omega
    have i2c : (zs.length : Int) ≤ cap := by omega
    go_enter Tryz.func288, Tryz.ntmps288
    go_upto_region 3 with fail
    generalize w.alloc (.cells zop.toArray 283) = W0 at *
    refine anyT_begin (R := But (fun b => b = w.heap.size)) 8 rfl (by kernel_rfl) ?_
    have hd : Later W0 W0.drew := Later.drew W0
    have hb1 := hb0.trans (hd.mono hb0.size)
    have r1 := later_keep hd R0.out
    have hs1 : w.heap.size + 1 ≤ W0.drew.heap.size := by have := hd.size; have := HS.out; omega
    have dV : ∀ v1, But (fun b => b = w.heap.size) W0.drew v1 → v1.cell? ⟨b, off, none⟩ = some (.int .u8 x) := fun v1 h => h.cell ((hd.cell dW)) (by simp; omega)
    clear dW R0 HS
    generalize W0.drew = W1 at *
    refine anyT_val (But.pre _) 0 rfl (by kernel_rfl) (by kernel_rfl) (by kernel_rfl) (fun _ _ _ _ h => h) rfl ?_; apply Exists.intro; refine ⟨fun v1 hv1 => ?_, ?_⟩; (· (go_simp; rfl)); simp only [Act.put, List.setIfInBounds_toArray, List.set_cons_zero, List.set_cons_succ]
    refine anyT_val (But.pre _) 1 rfl (by kernel_rfl) (by kernel_rfl) (by kernel_rfl) (fun _ _ _ _ h => h) rfl ?_; apply Exists.intro; refine ⟨fun v1 hv1 => ?_, ?_⟩; (· (go_simp; rfl)); simp only [Act.put, List.setIfInBounds_toArray, List.set_cons_zero, List.set_cons_succ]
    refine anyT_val (But.pre _) 2 rfl (by kernel_rfl) (by kernel_rfl) (by kernel_rfl) (fun _ _ _ _ h => h) rfl ?_; apply Exists.intro; refine ⟨fun v1 hv1 => ?_, ?_⟩; (· (go_simp; rfl)); simp only [Act.put, List.setIfInBounds_toArray, List.set_cons_zero, List.set_cons_succ]
    refine anyT_val (But.pre _) 3 rfl (by kernel_rfl) (by kernel_rfl) (by kernel_rfl) (fun _ _ _ _ h => h) rfl ?_; apply Exists.intro; refine ⟨fun v1 hv1 => ?_, ?_⟩; (· (go_simp; rfl)); simp only [Act.put, List.setIfInBounds_toArray, List.set_cons_zero, List.set_cons_succ]
    refine anyT_val (But.pre _) 4 rfl (by kernel_rfl) (by kernel_rfl) (by kernel_rfl) (fun _ _ _ _ h => h) rfl ?_; apply Exists.intro; refine ⟨fun v1 hv1 => ?_, ?_⟩; (· (go_simp; rfl)); simp only [Act.put, List.setIfInBounds_toArray, List.set_cons_zero, List.set_cons_succ]
    have hs8 := (hI.below hb1).cutAt 2 (by omega)
    generalize (if cap = 2 then some (⟨b, off, none⟩ : Addr) else some ⟨b, off + 2, none⟩) = ad2 at *
    clear dV
    refine anyT_one 5 rfl (by kernel_rfl) rfl ?_
    refine wp_enter 135 #[.slice ad2 (zs.length - 2) (cap - 2)] (by go_simp) ?_
    refine (cloneb_any _ (zs.drop 2) W1 (by simp; omega) (hs8.mono hb1.size)).mono ?_
    rw [List.length_drop]
    rintro e W2 ⟨a2, c2, rfl, hO2, hb2⟩
    refine ⟨But.of hb2, ?_⟩
    simp only [Act.put, List.setIfInBounds_toArray, List.set_cons_zero, List.set_cons_succ]
    have r2 := later_keep hb2 r1
    have R2 := block_cell r2
    have F2 := block_frozen r2
    have hw2 := hb1.trans (hb2.mono hb1.size)
    refine anyT_one 6 rfl (by kernel_rfl) rfl ?_
    unfold Oper.wp
    go_simp
    refine ⟨But.refl _ _, ?_⟩
    refine anyT_one 7 rfl (by kernel_rfl) rfl ?_
    unfold Oper.wp
    go_simp
    generalize hV : (W2.setCell ⟨w.heap.size, 0, none⟩ _).setCell ⟨w.heap.size, 1, none⟩ _ = V8
    have hV9 : V8 = putRow W2 (w.heap.size) 0 [.int .u8 x, .slice a2 (zs.length - 2) c2] := hV.symm
    have hb8 : But (fun b => b = w.heap.size) W2 V8 := by rw [hV9]; exact putRow_but (E := fun b => b = w.heap.size) (n := w.heap.size) rfl _ _ _ _ (But.refl _ _)
    have p8 := putRow_all [.int .u8 x, .slice a2 (zs.length - 2) c2] r2 rfl
    rw [← hV9] at p8
    clear hV hV9 R2 F2
    refine ⟨hb8, ?_⟩
    refine anyT_done (by kernel_rfl) ?_
    have P8 := block_cell p8
    have hw8 : Below w.heap.size w V8 := hw2.trans (hb8.below hw2.size (fun k h e => by omega))
    go_wp2_with fail
    exact bodyPost_ret (v := .agg #[.int .u8 x, .slice a2 (zs.length - 2) c2]) (by simp [results, Tryz.results288, go_sem, P8]) rfl ⟨hw8, .slice a2 (zs.length - 2) c2, rfl, (hO2.but hb8 (fun b h e => by omega)).mono (by omega)⟩
end Go.Proofs.YtohflohdbkamnaaGreatDoor

/- Package segs: the walk over a header's options, and the options that it yields. -/
namespace Go.Proofs.YtohflohdbkamnaaGreatDoor
open Go.RowKit Go.Shelf
set_option maxRecDepth 100000
attribute [local go_sem] Oper.semAt_some
set_option linter.unusedVariables false
set_option linter.unusedSimpArgs false

/-- An item: the value, and the option that it tells (none: they are wrong). -/
abbrev It := Value × Option Opt
def encI (x : It) : Array Value := #[x.1, .bool x.2.isSome]
def XI (n₁ N : Nat) (pre : List It) (x : It) (V : World) : Prop := pre.length ≤ N ∧
  match x.2 with
  | some o => ∃ s, x.1 = .agg #[.int .u8 o.1, s] ∧ Ow n₁ V s o.2
  | none => x.1 = .agg #[.int .u8 0, .slice none 0 0]
def SI (zs : List Int) (xs : List It) : Prop := (∃ os, opts zs = some os ∧ xs.map (·.2) = os.map some) ∨ (opts zs = none ∧ ∃ l v, xs = l ++ [(v, none)])
def SpI (zs : List Int) (xs : List It) : Prop := (∃ l v, xs = l ++ [(v, none)]) → opts zs = none
/-- What has been yielded up to a place. -/
def InvI (zs : List Int) (p : Nat) (pre : List It) : Prop := pre.length ≤ p ∧ ∃ os, pre.map (·.2) = os.map some ∧ opts zs = (opts (zs.drop p)).map (os ++ ·)
theorem InvI.zero (zs : List Int) : InvI zs 0 [] := ⟨Nat.le_refl _, [], rfl, by rw [List.drop_zero]; cases opts zs <;> rfl⟩
theorem InvI.bad {zs : List Int} {p : Nat} {pre : List It} (h : InvI zs p pre) (hn : opts (zs.drop p) = none) : opts zs = none := by
  obtain ⟨_, os, _, h2⟩ := h
  rw [h2, hn]
  rfl
theorem InvI.done {zs : List Int} {p : Nat} {pre : List It} (h : InvI zs p pre) (hn : opts (zs.drop p) = some []) : SI zs pre := by
  obtain ⟨_, os, h1, h2⟩ := h
  exact .inl ⟨os, by rw [h2, hn]; simp, h1⟩
theorem InvI.next {zs : List Int} {p q : Nat} {pre : List It} {o : Opt} {v : Value} (h : InvI zs p pre) (hq : p + 1 ≤ q) (hn : opts (zs.drop p) = (opts (zs.drop q)).map (o :: ·)) : InvI zs q (pre ++ [(v, some o)]) := by
  obtain ⟨hl, os, h1, h2⟩ := h
  refine ⟨by simp; omega, os ++ [o], by simp [h1], ?_⟩
  rw [h2, hn]
  cases opts (zs.drop q) <;> simp
theorem jump_ret (l : Nat) (J : Act → World → Prop) (Q : Exit → Act → World → Prop) (a : Act) (w : World) : Exit.jump l J Q .ret a w = Q .ret a w := rfl
theorem jump_normal (l : Nat) (J : Act → World → Prop) (Q : Exit → Act → World → Prop) (a : Act) (w : World) : Exit.jump l J Q .normal a w = Q .normal a w := rfl
theorem KB.later {n₀ Bs : Nat} {A B : World} (h1 : n₀ ≤ A.heap.size) (h2 : Bs < A.heap.size) (h : Later A B) : KB n₀ Bs A B := ⟨h.mono h1, h.block Bs h2⟩
theorem notLast {pre : List It} {v : Value} {o : Opt} (h : ∃ l v', pre ++ [(v, some o)] = l ++ [((v' : Value), (none : Option Opt))]) : False := by
  obtain ⟨l, v', h⟩ := h
  have h3 := congrArg List.getLast? h
  simp at h3
theorem drop_eq (zs : List Int) (p : Nat) (h : p < zs.length) : zs.drop p = zs[p]?.getD 0 :: zs.drop (p + 1) := by
  rw [List.drop_eq_getElem_cons h]
  simp [h]

set_option maxRecDepth 100000 in
set_option maxHeartbeats 4000000 in
theorem walk1_in (n : Nat) (hn : 1 ≤ n) (l Bs n₀ n₁ b off cap : Nat) (zs : List Int) (hB : Mt.By zs) (hreach : zs.length ≤ cap) (hcap : cap ≤ 9223372036854775807) (hlen : zs.length ≤ 140737488355328) (hb : b < n₀) (J Jx : List It → World → Prop)
    (hJ : ∀ s A B, J s A → Later A B → J s B)
    (hY : ∀ pre x V, J pre V → XI n₁ zs.length pre x V → YieldAt Fence.wide (n - 1) Tryz.prog l (encI x) V fun e V' => (e = .returned (.bool true) ∧ J (pre ++ [x]) V' ∧ KB n₀ Bs V V') ∨ (e = .returned (.bool false) ∧ Jx (pre ++ [x]) V'))
    (W : World) (hn1 : n₁ ≤ W.heap.size) (hBs : W.cell? ⟨Bs, 0, none⟩ = some (.slice (some ⟨b, off, none⟩) zs.length cap)) (hBl : Bs < W.heap.size) (hn0 : n₀ ≤ W.heap.size) (hc : ∀ j, j < zs.length → W.cell? ⟨b, off + j, none⟩ = some (.int .u8 (zs[j]?.getD 0))) (h0 : J [] W) :
    CallsIn Fence.wide n Tryz.prog 286 #[.func (.yield l) #[] #[], .pointer (some ⟨Bs, 0, none⟩)] W fun e W' => (∃ v, e = .returned v) ∧ ((∃ xs, SI zs xs ∧ J xs W') ∨ (∃ pre, SpI zs pre ∧ Jx pre W')) := by
  refine callsIn_of_wp Tryz.func286 rfl trivial ?_ rfl
  simp only [Tryz.ntmps286, List.size_toArray, List.length_cons, List.length_nil, Nat.reduceAdd, Nat.reduceSub, Array.replicate_succ, Array.replicate_zero, List.push_toArray, List.append_toArray, List.nil_append, List.cons_append]
  refine wpIn_wide.2 (wp_scope_jumps 0 (fun a w => ∃ (tl : List Value) (pre : List It), tl.length = 49 ∧ a = { tmps := (Value.func (.yield l) #[] #[] :: .pointer (some ⟨Bs, 0, none⟩) :: tl).toArray, defers := [] } ∧ J pre w ∧ opts zs = none ∧ pre.length ≤ zs.length) (fun _ _ => 0) rfl ((wpIn_wide (n := n)).1 ?_) (fun a w hJ1 => (wpIn_wide (n := n)).1 ?_))
  · have HC := hide hc
    clear hc
    gi_wp2
    gi_loopw [3] (fun i wr => ∃ (p : Nat) (pre : List It), p ≤ zs.length ∧ i = .int .i64 (p : Int) ∧ InvI zs p pre ∧ J pre wr ∧ KB n₀ Bs W wr) (fun i _ => zs.length - (intOf i).toNat)
    case atStart => exact ⟨0, [], by omega, rfl, InvI.zero zs, h0, KB.refl _ _ _⟩
    case round =>
      obtain ⟨p, pre, hp, rfl, hinv, hJs, hnx⟩ := hrel
      have hbx : wr.cell? ⟨Bs, 0, none⟩ = some (.slice (some ⟨b, off, none⟩) zs.length cap) := hnx.box.trans hBs
      have hcx : ∀ j, j < zs.length → wr.cell? ⟨b, off + j, none⟩ = some (.int .u8 (zs[j]?.getD 0)) := fun j h => (hnx.1.cell (p := ⟨b, off + j, none⟩) hb).trans (HC.out j h)
      by_cases hlt : p < zs.length
      · have c0 := hcx p hlt
        have b0 := hB.at p
        have HD := hide (drop_eq zs p hlt)
        have hlt' : (p : Int) < zs.length := by omega
        have hRr : Rd n₀ wr (.slice (some ⟨b, off + p, none⟩) (zs.length - p) (cap - p)) (zs.drop p) := .inr ⟨b, off + p, cap - p, by simp, by intro e; have := congrArg List.length e; simp at this; omega, by simp; omega, by omega, hb, fun j hj => by
          have h9 := hcx (p + j) (by simp at hj; omega)
          rw [show off + p + j = off + (p + j) from by omega, h9]
          simp [List.getElem?_drop]⟩
        have HRR := hide hRr
        have c1 : p + 1 < zs.length → wr.cell? ⟨b, off + p + 1, none⟩ = some (.int .u8 (zs[p + 1]?.getD 0)) := fun h => by have := hcx (p + 1) h; rw [← Nat.add_assoc] at this; exact this
        have HC1 := hide c1
        clear hcx c1
        have hn0' : n₀ ≤ wr.heap.size := Nat.le_trans hn0 hnx.1.size
        have hBl' : Bs < wr.heap.size := Nat.lt_of_lt_of_le hBl hnx.1.size
        generalize hx : zs[p]?.getD 0 = x at c0 b0 HD
        have HX := hide hx
        have hcp : (zs.length - p : Nat) ≤ cap - p := by omega
        clear hx hRr
        by_cases x0 : x = 0
        · have t0 : (x == 0) = true := by simp [x0]
          have X0 := hide x0
          clear x0
          gi_wp2
          refine ⟨trivial, ?_⟩
          refine (callsIn_wide.2 (blank_any n₀ (.slice (some ⟨b, off + p, none⟩) (zs.length - p) (cap - p)) (zs.drop p) _ HRR.out (by simp; omega))).mono ?_
          rintro e w' ⟨rfl, rfl⟩
          cases hz : azb (zs.drop p) with
          | true =>
            gi_wp2
            rw [jump_ret]
            refine bodyPost_ret (results_none rfl _ _ _) rfl ?_
            refine ⟨⟨_, rfl⟩, .inl ⟨pre, hinv.done ?_, hJs⟩⟩
            have h1 := of_decide_eq_true hz
            rw [HD.out] at h1 ⊢
            rw [X0.out, opts_zero, if_pos (fun y hy => h1 y (by simp [hy]))]
          | false =>
            have hno : opts (zs.drop p) = none := by
              have h1 := of_decide_eq_false hz
              rw [HD.out] at h1 ⊢
              rw [X0.out] at h1 ⊢
              rw [opts_zero, if_neg (fun h => h1 (fun y hy => by rcases List.mem_cons.1 hy with h' | h'; exact h'; exact h y h'))]
            gi_wp2
            refine wpIn_goto ⟨rfl, _, pre, ?_, rfl, hJs, hinv.bad hno, Nat.le_trans hinv.1 hp⟩
            rfl
        · have t0 : (x == 0) = false := by simp [x0]
          have X0 := hide x0
          clear x0
          by_cases x1 : x = 1
          · have t1 : (x == 1) = true := by simp [x1]
            subst x1
            have hT0 : ((zs.drop p).take 1)[0]?.getD 0 = 1 := by rw [HD.out]; rfl
            have hBt : Mt.By ((zs.drop p).take 1) := (hB.drop p).take 1
            have hTw : ((zs.drop p).take 1)[0]?.getD 0 ≠ 1 → 2 ≤ ((zs.drop p).take 1).length := fun h => (h hT0).elim
            have hRt' : ∀ v, Rd n₀ wr v ((zs.drop p).take 1) → Rd wr.heap.size wr v ((zs.drop p).take 1) := fun _ h => h.mono hn0'
            have hn1' : n₁ ≤ wr.heap.size := Nat.le_trans hn1 hnx.1.size
            gi_wp2
            refine ⟨trivial, ?_⟩
            have hRt := HRR.out.take 1 (by omega)
            refine (callsIn_wide.2 (optionOf_any _ ((zs.drop p).take 1) wr (hRt' _ hRt) hBt (by simp; omega) (by simp; omega) hTw)).mono ?_
            rw [hT0]
            rintro e V ⟨hbV, s, rfl, hOs⟩
            rw [if_pos rfl] at hOs
            obtain ⟨fn, tmps, assign, body, hy, hR⟩ := hY pre (.agg #[.int .u8 1, s], some (1, [])) V (hJ _ _ _ hJs hbV) ⟨Nat.le_trans hinv.1 hp, s, rfl, hOs.mono hn1'⟩
            dsimp only [encI, Option.isSome] at hy
            have hbx2 : V.cell? ⟨Bs, 0, none⟩ = some (.slice (some ⟨b, off, none⟩) zs.length cap) := (hbV.cell (p := ⟨Bs, 0, none⟩) hBl').trans hbx
            gi_wp2
            refine hR.mono ?_
            rintro e W3 (⟨rfl, hJ3, hk3⟩ | ⟨rfl, hJx3⟩)
            · gi_wp2
              go_roundw
              case rel => exact ⟨p + 1, _, by omega, by go_num, hinv.next (by omega) (by rw [HD.out, opts_one]), hJ3, hnx.trans ((KB.later hn0' hBl' hbV).trans hk3)⟩
              case measure => simp [intOf]; omega
            · gi_wp2
              rw [jump_ret]
              refine bodyPost_ret (results_none rfl _ _ _) rfl ?_
              exact ⟨⟨_, rfl⟩, .inr ⟨_, fun hl => (notLast hl).elim, hJx3⟩⟩
          · have t1 : (x == 1) = false := by simp [x1]
            have X1 := hide x1
            clear x1
            by_cases hs2 : zs.length - p < 2
            · have hno : opts (zs.drop p) = none := by
                rw [HD.out, List.drop_of_length_le (by omega)]
                exact opts_bare x X0.out X1.out
              have t2 : ((zs.length - p : Nat) : Int) < 2 := by omega
              gi_wp2
              refine wpIn_goto ⟨rfl, _, pre, ?_, rfl, hJs, hinv.bad hno, Nat.le_trans hinv.1 hp⟩
              rfl
            · have hp1 : p + 1 < zs.length := by omega
              have t2 : ¬ ((zs.length - p : Nat) : Int) < 2 := by omega
              have c1 := HC1.out hp1
              have b1 := hB.at (p + 1)
              have HD2 := hide (drop_eq zs (p + 1) hp1)
              have i1 : (1 : Int) < ((zs.length - p : Nat) : Int) := by omega
              clear HC1
              generalize hz : zs[p + 1]?.getD 0 = z at c1 b1 HD2
              have HZ := hide hz
              clear hz
              by_cases hz2 : z < 2
              · have hno : opts (zs.drop p) = none := by rw [HD.out, HD2.out]; exact opts_wrong x z _ X0.out X1.out (.inl hz2)
                gi_wp2
                refine wpIn_goto ⟨rfl, _, pre, ?_, rfl, hJs, hinv.bad hno, Nat.le_trans hinv.1 hp⟩
                rfl
              · by_cases hzl : ((zs.length - p : Nat) : Int) < z
                · have hno : opts (zs.drop p) = none := by rw [HD.out, HD2.out]; exact opts_wrong x z _ X0.out X1.out (.inr (by simp; omega))
                  gi_wp2
                  refine wpIn_goto ⟨rfl, _, pre, ?_, rfl, hJs, hinv.bad hno, Nat.le_trans hinv.1 hp⟩
                  rfl
                · obtain ⟨m, rfl⟩ := Int.eq_ofNat_of_zero_le b1.1
                  have hm2 : 2 ≤ m := by omega
                  have hml : p + m ≤ zs.length := by omega
                  have hT0 : ((zs.drop p).take m)[0]?.getD 0 = x := by rw [HD.out]; cases m with | zero => omega | succ k => rfl
                  have hBt : Mt.By ((zs.drop p).take m) := (hB.drop p).take m
                  have hTw : ((zs.drop p).take m)[0]?.getD 0 ≠ 1 → 2 ≤ ((zs.drop p).take m).length := fun _ => by simp; omega
                  have hRt' : ∀ v, Rd n₀ wr v ((zs.drop p).take m) → Rd wr.heap.size wr v ((zs.drop p).take m) := fun _ h => h.mono hn0'
                  have hn1' : n₁ ≤ wr.heap.size := Nat.le_trans hn1 hnx.1.size
                  have hni : opts (zs.drop p) = (opts (zs.drop (p + m))).map ((x, ((zs.drop p).take m).drop 2) :: ·) := by
                    have e1 : zs.drop p = x :: (m : Int) :: zs.drop (p + 2) := by rw [HD.out, HD2.out]
                    have h9 := opts_more x (m : Int) (zs.drop (p + 2)) X0.out X1.out (by omega) (by simp; omega)
                    rw [← e1] at h9
                    rw [h9, List.drop_drop]
                    have e2 : ((zs.drop p).take m).drop 2 = (zs.drop (p + 2)).take ((m : Int).toNat - 2) := by
                      rw [List.drop_take, List.drop_drop]
                      simp
                    rw [e2, show p + 2 + ((m : Int).toNat - 2) = p + m from by omega]
                  gi_wp2
                  refine ⟨trivial, ?_⟩
                  have hRt := HRR.out.take m (by omega)
                  refine (callsIn_wide.2 (optionOf_any _ ((zs.drop p).take m) wr (hRt' _ hRt) hBt (by simp; omega) (by simp; omega) hTw)).mono ?_
                  rw [hT0]
                  rintro e V ⟨hbV, s, rfl, hOs⟩
                  rw [if_neg X1.out] at hOs
                  obtain ⟨fn, tmps, assign, body, hy, hR⟩ := hY pre (.agg #[.int .u8 x, s], some (x, ((zs.drop p).take m).drop 2)) V (hJ _ _ _ hJs hbV) ⟨Nat.le_trans hinv.1 hp, s, rfl, hOs.mono hn1'⟩
                  dsimp only [encI, Option.isSome] at hy
                  have hbx2 : V.cell? ⟨Bs, 0, none⟩ = some (.slice (some ⟨b, off, none⟩) zs.length cap) := (hbV.cell (p := ⟨Bs, 0, none⟩) hBl').trans hbx
                  gi_wp2
                  refine hR.mono ?_
                  rintro e W3 (⟨rfl, hJ3, hk3⟩ | ⟨rfl, hJx3⟩)
                  · gi_wp2
                    go_roundw
                    case rel => exact ⟨p + m, _, by omega, by go_num, hinv.next (by omega) hni, hJ3, hnx.trans ((KB.later hn0' hBl' hbV).trans hk3)⟩
                    case measure => simp [intOf]; omega
                  · gi_wp2
                    rw [jump_ret]
                    refine bodyPost_ret (results_none rfl _ _ _) rfl ?_
                    exact ⟨⟨_, rfl⟩, .inr ⟨_, fun hl => (notLast hl).elim, hJx3⟩⟩
      · obtain rfl : p = zs.length := by omega
        clear hcx
        gi_wp2
        rw [jump_ret]
        refine bodyPost_ret (results_none rfl _ _ _) rfl ?_
        exact ⟨⟨_, rfl⟩, .inl ⟨pre, hinv.done (by rw [List.drop_of_length_le (Nat.le_refl _)]; rfl), hJs⟩⟩
  · obtain ⟨tl, pre, htl, rfl, hJs, hno, hpl⟩ := hJ1
    obtain ⟨v0, v1, v2, v3, v4, v5, v6, v7, v8, v9, v10, v11, v12, v13, v14, v15, v16, v17, v18, v19, v20, v21, v22, v23, v24, v25, v26, v27, v28, v29, v30, v31, v32, v33, v34, v35, v36, v37, v38, v39, v40, v41, v42, v43, v44, v45, v46, v47, v48, rfl⟩ := list49 htl
    have HNO := hide hno
    clear hno htl
    obtain ⟨fn, tmps, assign, body, hy, hR⟩ := hY pre (.agg #[.int .u8 0, .slice none 0 0], none) w hJs ⟨hpl, rfl⟩
    dsimp only [encI, Option.isSome] at hy
    gi_wp2
    refine hR.mono ?_
    rintro e W3 (⟨rfl, hJ3, hk3⟩ | ⟨rfl, hJx3⟩)
    · gi_wp2
      rw [jump_normal]
      go_end0
      exact ⟨⟨_, rfl⟩, .inl ⟨_, .inr ⟨HNO.out, _, _, rfl⟩, hJ3⟩⟩
    · gi_wp2
      rw [jump_normal]
      go_end0
      exact ⟨⟨_, rfl⟩, .inr ⟨_, fun _ => HNO.out, hJx3⟩⟩
end Go.Proofs.YtohflohdbkamnaaGreatDoor
