/- Layer 5: Of, of a datagram. -/
import Derived.Test.YtomdccljoaieeaaDoorKM
import Derived.Test.YtomdccljoaieeaaDoorRt
namespace Go.Proofs.YtomdccljoaieeaaDoor
open Go.RowKit Go.Shelf
set_option maxRecDepth 100000
set_option linter.unusedVariables false
set_option linter.unusedSimpArgs false

theorem run_store_fn (P : Program) (w : World) (a : Addr) (m : Mode) (f : Fn) (xs ys : Array Value) : (store a (.func f xs ys) m).run P w = stored P w a (.func f xs ys) m := run_store P w a _ m rfl

set_option maxHeartbeats 4000000 in
theorem of_udp (tos id ttl src dst : Int) (keep : Bool) (so sd : Value) (zd : List Int) (w : World) (hB : Mt.By zd) (hI : Rd w.heap.size w sd zd) (hl : 12 + zd.length ≤ 140737488355328) (hsr : 0 ≤ src ∧ src ≤ 4294967295) (hds : 0 ≤ dst ∧ dst ≤ 4294967295) (h0 : pue 17 src dst zd = 0) :
    Calls Tryd.prog 10 #[.agg #[.int .u8 tos, .int .u16 id, .bool keep, .int .u8 ttl, .int .u8 17, .int .u32 src, .int .u32 dst, so, sd]] w fun e w' => Below w.heap.size w w' ∧ e = .returned (.tuple #[.agg #[.int .u8 17, .int .u32 src, .int .u32 dst, .int .u16 (wat zd 0), .int .u16 (wat zd 2)], .int .i64 0]) := by
  obtain ⟨ad, cd, rfl, _, _⟩ := hI.slice
  have hb0 : Below w.heap.size w ((w.alloc (.cells #[.int .u8 tos, .int .u16 id, .bool keep, .int .u8 ttl, .int .u8 17, .int .u32 src, .int .u32 dst, so, .slice ad zd.length cd] 40)).alloc (.cells #[.int .u8 0, .int .u32 0, .int .u32 0, .int .u16 0, .int .u16 0] 46)) := ((Below.refl _ _).alloc (Nat.le_refl _) _).alloc (by simp) _
  have p0 : ((w.alloc (.cells #[.int .u8 tos, .int .u16 id, .bool keep, .int .u8 ttl, .int .u8 17, .int .u32 src, .int .u32 dst, so, .slice ad zd.length cd] 40)).alloc (.cells #[.int .u8 0, .int .u32 0, .int .u32 0, .int .u16 0, .int .u16 0] 46)).heap[w.heap.size]? = some (.cells #[.int .u8 tos, .int .u16 id, .bool keep, .int .u8 ttl, .int .u8 17, .int .u32 src, .int .u32 dst, so, .slice ad zd.length cd] 40) := (Below.heap_alloc _ _ _ (by simp)).trans (heap_alloc_new w _)
  have r0 := heap_alloc_new (w.alloc (.cells #[.int .u8 tos, .int .u16 id, .bool keep, .int .u8 ttl, .int .u8 17, .int .u32 src, .int .u32 dst, so, .slice ad zd.length cd] 40)) (.cells #[.int .u8 0, .int .u32 0, .int .u32 0, .int .u16 0, .int .u16 0] 46)
  rw [World.size_alloc] at r0
  have hs0 : ((w.alloc (.cells #[.int .u8 tos, .int .u16 id, .bool keep, .int .u8 ttl, .int .u8 17, .int .u32 src, .int .u32 dst, so, .slice ad zd.length cd] 40)).alloc (.cells #[.int .u8 0, .int .u32 0, .int .u32 0, .int .u16 0, .int .u16 0] 46)).heap.size = w.heap.size + 2 := by simp
  have HS0 := hide hs0
  have P0 := hide p0
  have R0 := hide r0
  have H0 := hide h0
  clear r0 hs0 p0 h0
  go_enter Tryd.func10, Tryd.ntmps10
  go_upto_region 1 with fail
  generalize (w.alloc (.cells #[.int .u8 tos, .int .u16 id, .bool keep, .int .u8 ttl, .int .u8 17, .int .u32 src, .int .u32 dst, so, .slice ad zd.length cd] 40)).alloc (.cells #[.int .u8 0, .int .u32 0, .int .u32 0, .int .u16 0, .int .u16 0] 46) = w0 at *
  have hlt0 : w.heap.size + 1 < w0.heap.size := by have := HS0.out; omega
  have p0 := P0.out
  go_cut [4, 5] (fun q x wx => ∃ g, q = .pointer (some ⟨g, 0, none⟩) ∧ x = .bool true ∧ wx.heap[g]? = some (.cells #[.func (.func 53) #[] #[], .func (.func 52) #[] #[]] 88 (0, 0)) ∧ Below w0.heap.size w0 wx)
  case first =>
    refine anyT_begin (R := But (fun b => w0.heap.size ≤ b)) 10 rfl (by kernel_rfl) ?_
    have hd : Later w0 w0.drew := Later.drew w0
    have pd := (hd.block w.heap.size (Array.getElem?_eq_some_iff.1 p0).1).trans p0
    have bd : Below w0.heap.size w0 w0.drew := hd
    generalize w0.drew = Wd at *
    have ha : ∀ v1, But (fun b => w0.heap.size ≤ b) Wd v1 → ∀ i, v1.cell? ⟨w.heap.size, i, none⟩ = #[Value.int .u8 tos, .int .u16 id, .bool keep, .int .u8 ttl, .int .u8 17, .int .u32 src, .int .u32 dst, so, .slice ad zd.length cd][i]? := fun v1 h => block_cell ((h.block w.heap.size (Array.getElem?_eq_some_iff.1 pd).1 (by omega)).trans pd)
    have hz : w0.heap.size ≤ Wd.heap.size := bd.size
    refine anyT_val (But.pre _) 1 rfl (by kernel_rfl) (by kernel_rfl) (by kernel_rfl) (fun _ _ _ _ h => h) rfl ?_; apply Exists.intro; refine ⟨fun v1 hv1 => ?_, ?_⟩; (· (go_simp; rfl)); simp only [Act.put, List.setIfInBounds_toArray, List.set_cons_zero, List.set_cons_succ]
    refine anyT_val (But.pre _) 2 rfl (by kernel_rfl) (by kernel_rfl) (by kernel_rfl) (fun _ _ _ _ h => h) rfl ?_; apply Exists.intro; refine ⟨fun v1 hv1 => ?_, ?_⟩; (· (go_simp; rfl)); simp only [Act.put, List.setIfInBounds_toArray, List.set_cons_zero, List.set_cons_succ]
    refine anyT_two 0 7 rfl rfl (by kernel_rfl) rfl rfl ?_ ?_
    · skip
      refine wp_enter 31 #[] (by go_simp) ?_
      refine (readers_any Wd).mono ?_
      rintro e W3 ⟨m, rfl, hb3, hM3⟩
      have l3 : Later Wd W3 := hb3
      refine ⟨But.of l3, ?_⟩
      simp only [Act.put, List.setIfInBounds_toArray, List.set_cons_zero, List.set_cons_succ]
      have hlk := look_udp hM3
      refine anyT_two 3 7 rfl rfl (by kernel_rfl) rfl rfl ?_ ?_
      · unfold Oper.wp
        go_simp
        refine ⟨But.refl _ _, ?_⟩
        clear hlk
        refine anyT_val (But.pre _) 4 rfl (by kernel_rfl) (by kernel_rfl) (by kernel_rfl) (fun _ _ _ _ h => h) rfl ?_; apply Exists.intro; refine ⟨fun v1 hv1 => ?_, ?_⟩; (· (go_simp; rfl)); simp only [Act.put, List.setIfInBounds_toArray, List.set_cons_zero, List.set_cons_succ]
        refine anyT_val (But.pre _) 5 rfl (by kernel_rfl) (by kernel_rfl) (by kernel_rfl) (fun _ _ _ _ h => h) rfl ?_; apply Exists.intro; refine ⟨fun v1 hv1 => ?_, ?_⟩; (· (go_simp; rfl)); simp only [Act.put, List.setIfInBounds_toArray, List.set_cons_zero, List.set_cons_succ]
        refine anyT_val (But.pre _) 6 rfl (by kernel_rfl) (by kernel_rfl) (by kernel_rfl) (fun _ _ _ _ h => h) rfl ?_; apply Exists.intro; refine ⟨fun v1 hv1 => ?_, ?_⟩; (· (go_simp; rfl)); simp only [Act.put, List.setIfInBounds_toArray, List.set_cons_zero, List.set_cons_succ]
        refine anyT_one 7 rfl (by kernel_rfl) rfl ?_
        unfold Oper.wp
        go_simp
        have l4 : Later W3 (W3.alloc (.cells #[.nilFunc, .nilFunc] 88)) := (Below.refl _ _).alloc (Nat.le_refl _) _
        have g4 := heap_alloc_new W3 (.cells #[.nilFunc, .nilFunc] 88)
        have b4 : Below w0.heap.size w0 (W3.alloc (.cells #[.nilFunc, .nilFunc] 88)) := (bd.trans (l3.mono hz)).trans (l4.mono (Nat.le_trans hz l3.size))
        have hge : w0.heap.size ≤ W3.heap.size := Nat.le_trans hz l3.size
        refine ⟨But.of l4, ?_⟩
        generalize W3.alloc (.cells #[.nilFunc, .nilFunc] 88) = W4 at *
        generalize W3.heap.size = g at *
        have kg := block_cell g4
        have fg := block_frozen g4
        have hsf := run_store_fn Tryd.prog
        refine anyT_one 8 rfl (by kernel_rfl) rfl ?_
        unfold Oper.wp
        go_simp
        generalize hV : (W4.setCell ⟨g, 0, none⟩ _).setCell ⟨g, 1, none⟩ _ = V
        have hV8 : V = putRow W4 (g) 0 [.func (.func 53) #[] #[], .func (.func 52) #[] #[]] := hV.symm
        have hbV : But (fun b => w0.heap.size ≤ b) W4 V := by rw [hV8]; exact putRow_but (E := fun b => w0.heap.size ≤ b) (n := g) hge _ _ _ _ (But.refl _ _)
        have pV := putRow_all [Value.func (.func 53) #[] #[], .func (.func 52) #[] #[]] g4 rfl
        rw [← hV8] at pV
        clear hV hV8 kg fg hsf
        refine ⟨hbV, ?_⟩
        refine anyT_one 9 rfl (by kernel_rfl) rfl ?_
        unfold Oper.wp
        go_simp
        refine ⟨But.refl _ _, ?_⟩
        refine anyT_done (by kernel_rfl) ?_
        have hbl : Below w0.heap.size w0 V := b4.trans (hbV.below b4.size (fun k hk e => by omega))
        clear ha
        go_wp2_with fail
        go_meet
        exact ⟨_, rfl, rfl, pV, hbl⟩
      · unfold Oper.wp
        go_simp
        have l4 : Later W3 (W3.alloc (.cells #[.nilFunc, .nilFunc] 88)) := (Below.refl _ _).alloc (Nat.le_refl _) _
        have g4 := heap_alloc_new W3 (.cells #[.nilFunc, .nilFunc] 88)
        have b4 : Below w0.heap.size w0 (W3.alloc (.cells #[.nilFunc, .nilFunc] 88)) := (bd.trans (l3.mono hz)).trans (l4.mono (Nat.le_trans hz l3.size))
        have hge : w0.heap.size ≤ W3.heap.size := Nat.le_trans hz l3.size
        have hM4 := (l4.block m (Array.getElem?_eq_some_iff.1 hM3).1).trans hM3
        refine ⟨But.of l4, ?_⟩
        clear hlk
        generalize W3.alloc (.cells #[.nilFunc, .nilFunc] 88) = W4 at *
        generalize W3.heap.size = g at *
        have hlk := look_udp hM4
        refine anyT_one 3 rfl (by kernel_rfl) rfl ?_
        unfold Oper.wp
        go_simp
        refine ⟨But.refl _ _, ?_⟩
        clear hlk
        refine anyT_val (But.pre _) 4 rfl (by kernel_rfl) (by kernel_rfl) (by kernel_rfl) (fun _ _ _ _ h => h) rfl ?_; apply Exists.intro; refine ⟨fun v1 hv1 => ?_, ?_⟩; (· (go_simp; rfl)); simp only [Act.put, List.setIfInBounds_toArray, List.set_cons_zero, List.set_cons_succ]
        refine anyT_val (But.pre _) 5 rfl (by kernel_rfl) (by kernel_rfl) (by kernel_rfl) (fun _ _ _ _ h => h) rfl ?_; apply Exists.intro; refine ⟨fun v1 hv1 => ?_, ?_⟩; (· (go_simp; rfl)); simp only [Act.put, List.setIfInBounds_toArray, List.set_cons_zero, List.set_cons_succ]
        refine anyT_val (But.pre _) 6 rfl (by kernel_rfl) (by kernel_rfl) (by kernel_rfl) (fun _ _ _ _ h => h) rfl ?_; apply Exists.intro; refine ⟨fun v1 hv1 => ?_, ?_⟩; (· (go_simp; rfl)); simp only [Act.put, List.setIfInBounds_toArray, List.set_cons_zero, List.set_cons_succ]
        have kg := block_cell g4
        have fg := block_frozen g4
        have hsf := run_store_fn Tryd.prog
        refine anyT_one 8 rfl (by kernel_rfl) rfl ?_
        unfold Oper.wp
        go_simp
        generalize hV : (W4.setCell ⟨g, 0, none⟩ _).setCell ⟨g, 1, none⟩ _ = V
        have hV8 : V = putRow W4 (g) 0 [.func (.func 53) #[] #[], .func (.func 52) #[] #[]] := hV.symm
        have hbV : But (fun b => w0.heap.size ≤ b) W4 V := by rw [hV8]; exact putRow_but (E := fun b => w0.heap.size ≤ b) (n := g) hge _ _ _ _ (But.refl _ _)
        have pV := putRow_all [Value.func (.func 53) #[] #[], .func (.func 52) #[] #[]] g4 rfl
        rw [← hV8] at pV
        clear hV hV8 kg fg hsf
        refine ⟨hbV, ?_⟩
        refine anyT_one 9 rfl (by kernel_rfl) rfl ?_
        unfold Oper.wp
        go_simp
        refine ⟨But.refl _ _, ?_⟩
        refine anyT_done (by kernel_rfl) ?_
        have hbl : Below w0.heap.size w0 V := b4.trans (hbV.below b4.size (fun k hk e => by omega))
        clear ha
        go_wp2_with fail
        go_meet
        exact ⟨_, rfl, rfl, pV, hbl⟩
    · unfold Oper.wp
      go_simp
      have l4 : Later Wd (Wd.alloc (.cells #[.nilFunc, .nilFunc] 88)) := (Below.refl _ _).alloc (Nat.le_refl _) _
      have g4 := heap_alloc_new Wd (.cells #[.nilFunc, .nilFunc] 88)
      have b4 : Below w0.heap.size w0 (Wd.alloc (.cells #[.nilFunc, .nilFunc] 88)) := bd.trans (l4.mono hz)
      refine ⟨But.of l4, ?_⟩
      have hge : w0.heap.size ≤ Wd.heap.size := hz
      generalize Wd.alloc (.cells #[.nilFunc, .nilFunc] 88) = W4 at *
      generalize Wd.heap.size = g at *
      refine anyT_one 0 rfl (by kernel_rfl) rfl ?_
      refine wp_enter 31 #[] (by go_simp) ?_
      refine (readers_any W4).mono ?_
      rintro e W5 ⟨m, rfl, hb5, hM5⟩
      have l5 : Later W4 W5 := hb5
      have g5 := (l5.block g (Array.getElem?_eq_some_iff.1 g4).1).trans g4
      have b5 : Below w0.heap.size w0 W5 := b4.trans (l5.mono b4.size)
      refine ⟨But.of l5, ?_⟩
      simp only [Act.put, List.setIfInBounds_toArray, List.set_cons_zero, List.set_cons_succ]
      have hlk := look_udp hM5
      refine anyT_one 3 rfl (by kernel_rfl) rfl ?_
      unfold Oper.wp
      go_simp
      refine ⟨But.refl _ _, ?_⟩
      clear hlk
      refine anyT_val (But.pre _) 4 rfl (by kernel_rfl) (by kernel_rfl) (by kernel_rfl) (fun _ _ _ _ h => h) rfl ?_; apply Exists.intro; refine ⟨fun v1 hv1 => ?_, ?_⟩; (· (go_simp; rfl)); simp only [Act.put, List.setIfInBounds_toArray, List.set_cons_zero, List.set_cons_succ]
      refine anyT_val (But.pre _) 5 rfl (by kernel_rfl) (by kernel_rfl) (by kernel_rfl) (fun _ _ _ _ h => h) rfl ?_; apply Exists.intro; refine ⟨fun v1 hv1 => ?_, ?_⟩; (· (go_simp; rfl)); simp only [Act.put, List.setIfInBounds_toArray, List.set_cons_zero, List.set_cons_succ]
      refine anyT_val (But.pre _) 6 rfl (by kernel_rfl) (by kernel_rfl) (by kernel_rfl) (fun _ _ _ _ h => h) rfl ?_; apply Exists.intro; refine ⟨fun v1 hv1 => ?_, ?_⟩; (· (go_simp; rfl)); simp only [Act.put, List.setIfInBounds_toArray, List.set_cons_zero, List.set_cons_succ]
      have kg := block_cell g5
      have fg := block_frozen g5
      have hsf := run_store_fn Tryd.prog
      refine anyT_one 8 rfl (by kernel_rfl) rfl ?_
      unfold Oper.wp
      go_simp
      generalize hV : (W5.setCell ⟨g, 0, none⟩ _).setCell ⟨g, 1, none⟩ _ = V
      have hV8 : V = putRow W5 (g) 0 [.func (.func 53) #[] #[], .func (.func 52) #[] #[]] := hV.symm
      have hbV : But (fun b => w0.heap.size ≤ b) W5 V := by rw [hV8]; exact putRow_but (E := fun b => w0.heap.size ≤ b) (n := g) hge _ _ _ _ (But.refl _ _)
      have pV := putRow_all [Value.func (.func 53) #[] #[], .func (.func 52) #[] #[]] g5 rfl
      rw [← hV8] at pV
      clear hV hV8 kg fg hsf
      refine ⟨hbV, ?_⟩
      refine anyT_one 9 rfl (by kernel_rfl) rfl ?_
      unfold Oper.wp
      go_simp
      refine ⟨But.refl _ _, ?_⟩
      refine anyT_done (by kernel_rfl) ?_
      have hbl : Below w0.heap.size w0 V := b5.trans (hbV.below b5.size (fun k hk e => by omega))
      clear ha
      go_wp2_with fail
      go_meet
      exact ⟨_, rfl, rfl, pV, hbl⟩
  case rest =>
    obtain ⟨g, rfl, rfl, hg, hbc⟩ := hcut
    have pc := (hbc.block w.heap.size (Array.getElem?_eq_some_iff.1 p0).1).trans p0
    have rc := (hbc.block _ (Array.getElem?_eq_some_iff.1 R0.out).1).trans R0.out
    have hwc := hb0.trans (hbc.mono hb0.size)
    have kg := block_cell hg
    have kp := block_cell pc
    go_wp2_with fail
    refine (ofUdp_any tos id ttl 17 src dst keep so _ zd wc hB ((hI.below hwc).mono hwc.size) hl hsr hds).mono ?_
    rintro e w5 ⟨hb5, x, y, rfl, hab⟩
    obtain ⟨rfl, rfl⟩ := hab H0.out
    rw [H0.out]
    have l6 : Later w5 (w5.alloc (.cells #[.int .u16 (wat zd 0), .int .u16 (wat zd 2)] 93)) := (Below.refl _ _).alloc (Nat.le_refl _) _
    have l56 := Later.trans hb5 l6
    have p6 := (l56.block w.heap.size (Array.getElem?_eq_some_iff.1 pc).1).trans pc
    have r6 := (l56.block _ (Array.getElem?_eq_some_iff.1 rc).1).trans rc
    have hw6 := hwc.trans (l56.mono hwc.size)
    clear kg kp
    have kp := block_cell p6
    go_wp2_with fail
    generalize w5.alloc (.cells #[.int .u16 (wat zd 0), .int .u16 (wat zd 2)] 93) = w6 at *
    refine (told_any tos id ttl 17 src dst (wat zd 0) (wat zd 2) 0 keep so _ w6).mono ?_
    rintro e w7 ⟨hb7, ⟨hx, _⟩ | ⟨_, rfl⟩⟩
    · exact absurd rfl hx
    · have r7 := (Below.block hb7 _ (Array.getElem?_eq_some_iff.1 r6).1).trans r6
      have hw7 := hw6.trans (hb7.mono hw6.size)
      have k7 := block_cell r7
      have f7 := block_frozen r7
      clear kp
      go_wp2_with fail
      generalize hV : ((((w7.setCell ⟨w.heap.size + 1, 0, none⟩ _).setCell ⟨w.heap.size + 1, 1, none⟩ _).setCell ⟨w.heap.size + 1, 2, none⟩ _).setCell ⟨w.heap.size + 1, 3, none⟩ _).setCell ⟨w.heap.size + 1, 4, none⟩ _ = V
      have hV8 : V = putRow w7 (w.heap.size + 1) 0 [.int .u8 17, .int .u32 src, .int .u32 dst, .int .u16 (wat zd 0), .int .u16 (wat zd 2)] := hV.symm
      have hbV : But (fun b => b = w.heap.size + 1) w7 V := by rw [hV8]; exact putRow_but (E := fun b => b = w.heap.size + 1) (n := w.heap.size + 1) rfl _ _ _ _ (But.refl _ _)
      have pV := putRow_all [Value.int .u8 17, .int .u32 src, .int .u32 dst, .int .u16 (wat zd 0), .int .u16 (wat zd 2)] r7 rfl
      rw [← hV8] at pV
      clear hV hV8 k7 f7
      have PV := block_cell pV
      have hwV : Below w.heap.size w V := hw7.trans (hbV.below hw7.size (fun k hk e => by omega))
      exact bodyPost_ret (v := .tuple #[.agg #[.int .u8 17, .int .u32 src, .int .u32 dst, .int .u16 (wat zd 0), .int .u16 (wat zd 2)], .int .i64 0]) (by simp [results, Tryd.results10, go_sem, PV]) rfl ⟨hwV, rfl⟩
end Go.Proofs.YtomdccljoaieeaaDoor
