/- Several texts in one. -/
import Derived.Test.YtohflohdbkamnaaGreatDoorCB
import Derived.RangeFuncNested
import Derived.Test.YtohflohdbkamnaaGreatDoorV5
import Derived.Test.YtohflohdbkamnaaGreatDoorRk
import Derived.Test.YtohflohdbkamnaaGreatDoorRg
import Derived.Test.YtohflohdbkamnaaGreatDoorChecked
import Derived.Laws.Bits64b
import Derived.Laws.BitsAllLaws
import Derived.Lib.TrailingZeros
import Derived.Deep.DeepCutAuto
import Derived.Deep.CutBlock
/- Package ctrl: what a packet's message is; what kind it is. -/
namespace Go.Proofs.YtohflohdbkamnaaGreatDoor
open Go.RowKit Go.Shelf
set_option maxRecDepth 100000
set_option linter.unusedVariables false
set_option linter.unusedSimpArgs false

/-- What a packet's message is refused with (0: nothing). -/
def pie (proto : Int) (zs : List Int) : Int := if proto ≠ 1 then 12 else if zs.length < 8 then 3 else if Mt.cks zs ≠ 0 then 5 else 0
/-- A message's cells of zeros. -/
abbrev zm : List Value := [.int .u8 0, .int .u8 0, .int .u32 0, .slice none 0 0]

set_option maxHeartbeats 4000000 in
theorem parseIcmp_any (tos id ttl proto src dst : Int) (keep : Bool) (so sd : Value) (zs : List Int) (w : World) (hB : Mt.By zs) (hI : Rd w.heap.size w sd zs) (hl : zs.length ≤ 140737488355328) :
    Calls Tryz.prog 177 #[.agg #[.int .u8 tos, .int .u16 id, .bool keep, .int .u8 ttl, .int .u8 proto, .int .u32 src, .int .u32 dst, so, sd]] w fun e w' => Below w.heap.size w w' ∧ ((pie proto zs ≠ 0 ∧ e = .returned (.tuple #[.agg zm.toArray, .int .i64 (pie proto zs)])) ∨
      (pie proto zs = 0 ∧ ∃ ad cd, e = .returned (.tuple #[.agg #[.int .u8 (zs[0]?.getD 0), .int .u8 (zs[1]?.getD 0), .int .u32 (wat4 zs 4), .slice ad (zs.length - 8) cd], .int .i64 0]) ∧ Ow w.heap.size w' (.slice ad (zs.length - 8) cd) (zs.drop 8))) := by
  obtain ⟨ad, cd, rfl, hl1, hm1⟩ := hI.slice
  have hb0 : Below w.heap.size w ((w.alloc (.cells #[.int .u8 tos, .int .u16 id, .bool keep, .int .u8 ttl, .int .u8 proto, .int .u32 src, .int .u32 dst, so, .slice ad zs.length cd] 78)).alloc (.cells zm.toArray 154)) := ((Below.refl _ _).alloc (Nat.le_refl _) _).alloc (by simp) _
  have p0 : ((w.alloc (.cells #[.int .u8 tos, .int .u16 id, .bool keep, .int .u8 ttl, .int .u8 proto, .int .u32 src, .int .u32 dst, so, .slice ad zs.length cd] 78)).alloc (.cells zm.toArray 154)).heap[w.heap.size]? = some (.cells #[.int .u8 tos, .int .u16 id, .bool keep, .int .u8 ttl, .int .u8 proto, .int .u32 src, .int .u32 dst, so, .slice ad zs.length cd] 78) := (Below.heap_alloc _ _ _ (by simp)).trans (heap_alloc_new w _)
  have r0 : ((w.alloc (.cells #[.int .u8 tos, .int .u16 id, .bool keep, .int .u8 ttl, .int .u8 proto, .int .u32 src, .int .u32 dst, so, .slice ad zs.length cd] 78)).alloc (.cells zm.toArray 154)).heap[w.heap.size + 1]? = some (.cells zm.toArray 154 (0, 0)) := by have := heap_alloc_new (w.alloc (.cells #[.int .u8 tos, .int .u16 id, .bool keep, .int .u8 ttl, .int .u8 proto, .int .u32 src, .int .u32 dst, so, .slice ad zs.length cd] 78)) (.cells zm.toArray 154); simpa using this
  have hs0 : ((w.alloc (.cells #[.int .u8 tos, .int .u16 id, .bool keep, .int .u8 ttl, .int .u8 proto, .int .u32 src, .int .u32 dst, so, .slice ad zs.length cd] 78)).alloc (.cells zm.toArray 154)).heap.size = w.heap.size + 1 + 1 := by simp
  have P0 := hide p0
  have R0 := hide r0
  have HS := hide hs0
  clear p0 r0 hs0
  by_cases c1 : proto = 1
  · have t1 : (proto != 1) = false := by simp [c1]
    have C1 := hide c1
    clear c1
    by_cases c2 : zs.length < 8
    · have t2 : (zs.length : Int) < 8 := by omega
      have HF : Hid (pie proto zs = 3) := by show _ = _; unfold pie; rw [if_neg (by simp [C1.out]), if_pos c2]
      go_enter Tryz.func177, Tryz.ntmps177
      go_wp2_with fail
      exact bodyPost_ret (v := .tuple #[.agg zm.toArray, .int .i64 3]) (by simp [results, Tryz.results177, go_sem]) rfl ⟨hb0, .inl ⟨by rw [HF.out]; decide, by rw [HF.out]⟩⟩
    · have t2 : ¬ (zs.length : Int) < 8 := by omega
      by_cases c3 : Mt.cks zs = 0
      · have HF : Hid (pie proto zs = 0) := by show _ = _; unfold pie; rw [if_neg (by simp [C1.out]), if_neg c2, if_neg (by simp [c3])]
        have t3 : (Mt.cks zs == 0) = true := by simp [c3]
        have C3 := hide c3
        clear c3
        go_enter Tryz.func177, Tryz.ntmps177
        go_wp2_with fail
        generalize (w.alloc (.cells #[.int .u8 tos, .int .u16 id, .bool keep, .int .u8 ttl, .int .u8 proto, .int .u32 src, .int .u32 dst, so, .slice ad zs.length cd] 78)).alloc (.cells zm.toArray 154) = W0 at *
        obtain ⟨b, off, cap, e0, hlc, hmc, hbb, hcs⟩ := hI.cells (by omega)
        have hcl := e0
        simp at hcl
        obtain ⟨rfl, rfl⟩ := hcl
        clear e0
        have d0 := hcs 0 (by omega)
        have d1 := hcs 1 (by omega)
        refine (good_any _ zs hB hl W0 ((hI.below hb0).mono hb0.size)).mono ?_
        rintro e w1 ⟨rfl, hb1⟩
        rw [t3]
        have r1 := (hb1.block (w.heap.size + 1) (by have := HS.out; omega)).trans R0.out
        have hw1 : Below w.heap.size w w1 := hb0.trans (hb1.mono hb0.size)
        have hs1 : w.heap.size + 1 + 1 ≤ w1.heap.size := by have := hb1.size; have := HS.out; omega
        go_wp2_with fail
        have HX0 : Hid (zs[0]?.getD 0 = zs[0]?.getD 0) := rfl
        generalize gx0 : zs[0]?.getD 0 = x0 at *
        generalize gx1 : zs[1]?.getD 0 = x1 at *
        clear HX0
        have GX0 := hide gx0
        have GX1 := hide gx1
        clear gx0 gx1
        obtain ⟨Φ, HΦ⟩ : ∃ Φ : Array Value → World → Prop, Hid (Φ = (fun arr W => ∃ ad cd, arr = #[.int .u8 x0, .int .u8 x1, .int .u32 (wat4 zs 4), .slice ad (zs.length - 8) cd] ∧ Ow (w.heap.size + 1 + 1) W (.slice ad (zs.length - 8) cd) (zs.drop 8))) := ⟨_, rfl⟩
        have hΦ : Stays Φ := by
          rw [HΦ.out]
          rintro arr A B l ⟨ad, cd, h1, h2⟩
          exact ⟨ad, cd, h1, h2.later l⟩
        refine anyR_begin (R := KR (w.heap.size + 1) 4 154 Φ) (Keep.pre _ _ _) (fun w => KR.of hΦ (Later.drew w)) 14 rfl (by kernel_rfl) (fun W1 hW1 => ?_)
        have hg1 : Wr (w.heap.size + 1) 4 154 W1 := hW1.2.1 ⟨_, r1, rfl⟩
        have hbut : ∀ v1, KR (w.heap.size + 1) 4 154 Φ W1 v1 → But (fun b => b = w.heap.size + 1) w1 v1 := fun v1 h => hW1.1.trans h.1
        have hbel : ∀ v1, KR (w.heap.size + 1) 4 154 Φ W1 v1 → Below w.heap.size w v1 := fun v1 h => hw1.trans ((hbut v1 h).below (by omega) (fun k h e => by omega))
        have q0 : ∀ v1, KR (w.heap.size + 1) 4 154 Φ W1 v1 → v1.cell? ⟨b, off, none⟩ = some (.int .u8 x0) := fun v1 h => ((hbel v1 h).cell (p := ⟨b, off, none⟩) hbb).trans d0
        have q1 : ∀ v1, KR (w.heap.size + 1) 4 154 Φ W1 v1 → v1.cell? ⟨b, off + 1, none⟩ = some (.int .u8 x1) := fun v1 h => ((hbel v1 h).cell (p := ⟨b, off + 1, none⟩) hbb).trans d1
        have hr : ∀ v1, KR (w.heap.size + 1) 4 154 Φ W1 v1 → Rd w.heap.size v1 (.slice (some ⟨b, off, none⟩) zs.length cd) zs := fun v1 h => hI.below (hbel v1 h)
        have i0 : 0 < zs.length := by omega
        have i1 : (1 : Int) < zs.length := by omega
        have i8 : (8 : Int) ≤ zs.length := by omega
        have i8c : (zs.length : Int) ≤ cd := by omega
        clear d0 d1
        refine anyR_val (Keep.pre _ _ _) 0 rfl (by kernel_rfl) (by kernel_rfl) (by kernel_rfl) (fun _ _ _ _ h => h) rfl ?_; apply Exists.intro; refine ⟨fun w1 hw1 => ?_, ?_⟩; (· (go_simp; rfl)); simp only [Act.put, List.setIfInBounds_toArray, List.set_cons_zero, List.set_cons_succ]
        refine anyR_val (Keep.pre _ _ _) 1 rfl (by kernel_rfl) (by kernel_rfl) (by kernel_rfl) (fun _ _ _ _ h => h) rfl ?_; apply Exists.intro; refine ⟨fun w1 hw1 => ?_, ?_⟩; (· (go_simp; rfl)); simp only [Act.put, List.setIfInBounds_toArray, List.set_cons_zero, List.set_cons_succ]
        refine anyR_val (Keep.pre _ _ _) 2 rfl (by kernel_rfl) (by kernel_rfl) (by kernel_rfl) (fun _ _ _ _ h => h) rfl ?_; apply Exists.intro; refine ⟨fun w1 hw1 => ?_, ?_⟩; (· (go_simp; rfl)); simp only [Act.put, List.setIfInBounds_toArray, List.set_cons_zero, List.set_cons_succ]
        refine anyR_val (Keep.pre _ _ _) 3 rfl (by kernel_rfl) (by kernel_rfl) (by kernel_rfl) (fun _ _ _ _ h => h) rfl ?_; apply Exists.intro; refine ⟨fun w1 hw1 => ?_, ?_⟩; (· (go_simp; rfl)); simp only [Act.put, List.setIfInBounds_toArray, List.set_cons_zero, List.set_cons_succ]
        refine anyR_val (Keep.pre _ _ _) 4 rfl (by kernel_rfl) (by kernel_rfl) (by kernel_rfl) (fun _ _ _ _ h => h) rfl ?_; apply Exists.intro; refine ⟨fun w1 hw1 => ?_, ?_⟩; (· (go_simp; rfl)); simp only [Act.put, List.setIfInBounds_toArray, List.set_cons_zero, List.set_cons_succ]
        refine anyR_val (Keep.pre _ _ _) 5 rfl (by kernel_rfl) (by kernel_rfl) (by kernel_rfl) (fun _ _ _ _ h => h) rfl ?_; apply Exists.intro; refine ⟨fun w1 hw1 => ?_, ?_⟩; (· (go_simp; rfl)); simp only [Act.put, List.setIfInBounds_toArray, List.set_cons_zero, List.set_cons_succ]
        refine anyR_val (Keep.pre _ _ _) 6 rfl (by kernel_rfl) (by kernel_rfl) (by kernel_rfl) (fun _ _ _ _ h => h) rfl ?_; apply Exists.intro; refine ⟨fun w1 hw1 => ?_, ?_⟩; (· (go_simp; rfl)); simp only [Act.put, List.setIfInBounds_toArray, List.set_cons_zero, List.set_cons_succ]
        refine anyR_take (Keep.pre _ _ _) 7 (.int .u32 (wat4 zs 4)) rfl (by kernel_rfl) (by kernel_rfl) (by kernel_rfl) (fun _ _ _ h => h) rfl (fun v1 hv1 => goes_call 169 #[.slice (some ⟨b, off, none⟩) zs.length cd, .int .i64 4] (by go_simp) ?_) ?_
        · exact (get32_rd _ zs hB 4 (by omega) v1 (hr v1 hv1)).mono fun e w' ⟨he, q, hw⟩ => ⟨he, KR.of hΦ (by rw [hw]; exact below_draw (Later.refl v1) q)⟩
        simp only [Act.put, List.setIfInBounds_toArray, List.set_cons_zero, List.set_cons_succ]
        refine anyR_val (Keep.pre _ _ _) 8 rfl (by kernel_rfl) (by kernel_rfl) (by kernel_rfl) (fun _ _ _ _ h => h) rfl ?_; apply Exists.intro; refine ⟨fun w1 hw1 => ?_, ?_⟩; (· (go_simp; rfl)); simp only [Act.put, List.setIfInBounds_toArray, List.set_cons_zero, List.set_cons_succ]
        refine anyR_val (Keep.pre _ _ _) 9 rfl (by kernel_rfl) (by kernel_rfl) (by kernel_rfl) (fun _ _ _ _ h => h) rfl ?_; apply Exists.intro; refine ⟨fun w1 hw1 => ?_, ?_⟩; (· (go_simp; rfl)); simp only [Act.put, List.setIfInBounds_toArray, List.set_cons_zero, List.set_cons_succ]
        have hs8 : ∀ v1, KR (w.heap.size + 1) 4 154 Φ W1 v1 → Rd w.heap.size v1 (.slice (if cd = 8 then some (⟨b, off, none⟩ : Addr) else some ⟨b, off + 8, none⟩) (zs.length - 8) (cd - 8)) (zs.drop 8) := fun v1 h => (hr v1 h).cutAt 8 (by omega)
        generalize (if cd = 8 then some (⟨b, off, none⟩ : Addr) else some ⟨b, off + 8, none⟩) = ad8 at *
        refine anyR_one 10 rfl (by kernel_rfl) rfl (fun W2 hW2 => ?_)
        refine wp_enter 135 #[.slice ad8 (zs.length - 8) (cd - 8)] (by go_simp) ?_
        refine (cloneb_any _ (zs.drop 8) W2 (by simp; omega) ((hs8 W2 hW2).mono (hbel W2 hW2).size)).mono ?_
        rw [List.length_drop]
        rintro e W5 ⟨a5, c5, rfl, hO5, hb5⟩
        have hW15 := hW2.trans (KR.of hΦ hb5)
        have hs2 : w.heap.size + 1 + 1 ≤ W2.heap.size := Nat.le_trans hs1 (hbut W2 hW2).size
        refine ⟨KR.of hΦ hb5, ?_⟩
        simp only [Act.put, List.setIfInBounds_toArray, List.set_cons_zero, List.set_cons_succ]
        refine anyR_val (Keep.pre _ _ _) 11 rfl (by kernel_rfl) (by kernel_rfl) (by kernel_rfl) (fun _ _ _ _ h => h) rfl ?_; apply Exists.intro; refine ⟨fun w1 hw1 => ?_, ?_⟩; (· (go_simp; rfl)); simp only [Act.put, List.setIfInBounds_toArray, List.set_cons_zero, List.set_cons_succ]
        refine anyR_one 12 rfl (by kernel_rfl) rfl (fun W6 hW6 => ?_)
        have hW16 := hW15.trans hW6
        have hg6 := hW16.2.1 hg1
        have hg6' := hg6
        obtain ⟨cur, hcur, hsz⟩ := hg6'
        have k6 : ∀ j, W6.cell? ⟨w.heap.size + 1, j, none⟩ = cur[j]? := block_cell hcur
        have f6 : ∀ j, W6.frozen? ⟨w.heap.size + 1, j, none⟩ = false := block_frozen hcur
        unfold Oper.wp
        go_simp
        generalize hV7 : (((W6.setCell ⟨w.heap.size + 1, 0, none⟩ _).setCell ⟨w.heap.size + 1, 1, none⟩ _).setCell ⟨w.heap.size + 1, 2, none⟩ _).setCell ⟨w.heap.size + 1, 3, none⟩ _ = V7
        have hV8 : V7 = putRow W6 (w.heap.size + 1) 0 [.int .u8 x0, .int .u8 x1, .int .u32 (wat4 zs 4), .slice a5 (zs.length - 8) c5] := hV7.symm
        have hSt := KR.store (Φ := Φ) [.int .u8 x0, .int .u8 x1, .int .u32 (wat4 zs 4), .slice a5 (zs.length - 8) c5] hg6 rfl (by rw [HΦ.out]; exact ⟨a5, c5, rfl, ((hO5.but hW6.1 (fun b h e => by omega)).but (putRow_rb (rb := w.heap.size + 1) _ _) (fun b h e => by omega)).mono hs2⟩)
        rw [← hV8] at hSt
        clear hV7 hV8 k6 f6
        refine ⟨hSt.1, ?_⟩
        refine anyR_val (Keep.pre _ _ _) 13 rfl (by kernel_rfl) (by kernel_rfl) (by kernel_rfl) (fun _ _ _ _ h => h) rfl ?_; apply Exists.intro; refine ⟨fun w1 hw1 => ?_, ?_⟩; (· (go_simp; rfl)); simp only [Act.put, List.setIfInBounds_toArray, List.set_cons_zero, List.set_cons_succ]
        refine anyR_done (by kernel_rfl) (fun W8 hW8 => ?_)
        obtain ⟨arr, hh8, hP8⟩ := hW8.2.2 hSt.2
        have hw8 := hbel W8 ((hW16.trans hSt.1).trans hW8)
        clear hSt q0 q1 hr hs8 hbut
        rw [HΦ.out] at hP8
        obtain ⟨ad8', cd8, rfl, hO8⟩ := hP8
        have r8 := block_cell hh8
        go_wp2_with fail
        exact bodyPost_ret (v := .tuple #[.agg #[.int .u8 x0, .int .u8 x1, .int .u32 (wat4 zs 4), .slice ad8' (zs.length - 8) cd8], .int .i64 0]) (by simp [results, Tryz.results177, go_sem, r8]) rfl ⟨hw8, .inr ⟨HF.out, ad8', cd8, by rw [GX0.out, GX1.out], hO8.mono (by omega)⟩⟩
      · have HF : Hid (pie proto zs = 5) := by show _ = _; unfold pie; rw [if_neg (by simp [C1.out]), if_neg c2, if_pos c3]
        have t3 : (Mt.cks zs == 0) = false := by simp [c3]
        clear c3
        go_enter Tryz.func177, Tryz.ntmps177
        go_wp2_with fail
        generalize (w.alloc (.cells #[.int .u8 tos, .int .u16 id, .bool keep, .int .u8 ttl, .int .u8 proto, .int .u32 src, .int .u32 dst, so, .slice ad zs.length cd] 78)).alloc (.cells zm.toArray 154) = W0 at *
        refine (good_any _ zs hB hl W0 ((hI.below hb0).mono hb0.size)).mono ?_
        rintro e w1 ⟨rfl, hb1⟩
        rw [t3]
        have r1 := (hb1.block (w.heap.size + 1) (by have := HS.out; omega)).trans R0.out
        have r1c := block_cell r1
        have r1f := block_frozen r1
        have hw1 : Below w.heap.size w w1 := hb0.trans (hb1.mono hb0.size)
        go_wp2_with fail
        generalize hV : (((w1.setCell ⟨w.heap.size + 1, 0, none⟩ _).setCell ⟨w.heap.size + 1, 1, none⟩ _).setCell ⟨w.heap.size + 1, 2, none⟩ _).setCell ⟨w.heap.size + 1, 3, none⟩ _ = V8
        have hV9 : V8 = putRow w1 (w.heap.size + 1) 0 zm := hV.symm
        have hb8 : But (fun b => b = w.heap.size + 1) w1 V8 := by rw [hV9]; exact putRow_but (E := fun b => b = w.heap.size + 1) (n := w.heap.size + 1) rfl _ _ _ _ (But.refl _ _)
        have p8 := putRow_all zm r1 rfl
        rw [← hV9] at p8
        clear hV hV9
        have P8 := block_cell p8
        have hw8 : Below w.heap.size w V8 := (hw1).trans (hb8.below (hw1).size (fun k h e => by omega))
        exact bodyPost_ret (v := .tuple #[.agg zm.toArray, .int .i64 5]) (by simp [results, Tryz.results177, go_sem, P8]) rfl (⟨hw8, .inl ⟨by rw [HF.out]; decide, by rw [HF.out]⟩⟩)
  · have t1 : (proto != 1) = true := by simp [c1]
    have HF : Hid (pie proto zs = 12) := by show _ = _; unfold pie; rw [if_pos c1]
    clear c1
    go_enter Tryz.func177, Tryz.ntmps177
    go_wp2_with fail
    exact bodyPost_ret (v := .tuple #[.agg zm.toArray, .int .i64 12]) (by simp [results, Tryz.results177, go_sem]) rfl ⟨hb0, .inl ⟨by rw [HF.out]; decide, by rw [HF.out]⟩⟩

set_option maxHeartbeats 1000000 in
theorem isError_any (ty cde rest : Int) (sm : Value) (w : World) :
    Calls Tryz.prog 178 #[.agg #[.int .u8 ty, .int .u8 cde, .int .u32 rest, sm]] w fun e w' => e = .returned (.bool (ty == 3 || (ty == 11 || ty == 12))) ∧ Below w.heap.size w w' := by
  have hbox : Below w.heap.size w (w.alloc (.cells #[.int .u8 ty, .int .u8 cde, .int .u32 rest, sm] 154)) := (Below.refl _ _).alloc (Nat.le_refl _) _
  cases h1 : (ty == 3)
  · cases h2 : (ty == 11)
    · go_enter Tryz.func178, Tryz.ntmps178
      go_wp2
      go_ret
      exact ⟨rfl, hbox⟩
    · go_enter Tryz.func178, Tryz.ntmps178
      go_wp2
      go_ret
      exact ⟨rfl, hbox⟩
  · go_enter Tryz.func178, Tryz.ntmps178
    go_wp2
    go_ret
    exact ⟨rfl, hbox⟩
end Go.Proofs.YtohflohdbkamnaaGreatDoor

/- Package ctrl: frames built. -/
namespace Go.Proofs.YtohflohdbkamnaaGreatDoor
open Go.RowKit Go.Shelf
set_option maxRecDepth 100000
set_option linter.unusedVariables false
set_option linter.unusedSimpArgs false

/-- The four beginnings, one behind the other. -/
def tab : List Int := [32, 1, 136, 11, 48, 1, 136, 11, 32, 129, 136, 11, 48, 129, 136, 11]
/-- They stand where the package keeps them. -/
def Tb (w : World) : Prop := ∀ i, i < 16 → w.cell? ⟨0, i, none⟩ = some (.int .u8 (tab[i]?.getD 0))
theorem Tb.pos {w : World} (h : Tb w) : 0 < w.heap.size := World.block_lt_of_cell? w ⟨0, 0, none⟩ (h 0 (by omega))
theorem Tb.below {w w' : World} {n : Nat} (h : Tb w) (hb : Below n w w') (hn : 0 < n) : Tb w' := fun i hi => (hb.cell (p := ⟨0, i, none⟩) hn).trans (h i hi)
theorem Tb.later {w w' : World} (h : Tb w) (l : Later w w') : Tb w' := h.below l h.pos

end Go.Proofs.YtohflohdbkamnaaGreatDoor

/- A range over a function that hands over memory of its own: what it tells of an item holds in the world in which it yields it. -/
namespace Go.Proofs.YtohflohdbkamnaaGreatDoor
open Go.RowKit Go.Shelf
set_option maxRecDepth 100000
set_option linter.unusedVariables false

/-- What the function does: it yields items, each with what X says of it there, and goes on while the body says so; J is whatever abides new memory. -/
def GenX {α : Type} (F : Fence) (n : Nat) (P : Program) (g : Nat) (lb : Array Value) (encs : α → Array Value) (Kp : World → World → Prop) (X : List α → α → World → Prop) (S Sp : List α → Prop) (w : World) : Prop :=
  ∀ (l : Nat) (J Jx : List α → World → Prop) (W : World), Below w.heap.size w W → (∀ s A B, J s A → Later A B → J s B) →
    (∀ pre x V, J pre V → X pre x V → YieldAt F (n - 1) P l (encs x) V fun e V' => (e = .returned (.bool true) ∧ J (pre ++ [x]) V' ∧ Kp V V') ∨ (e = .returned (.bool false) ∧ Jx (pre ++ [x]) V')) →
    J [] W → CallsIn F n P g (#[.func (.yield l) #[] #[]] ++ lb) W fun e W' => (∃ v, e = .returned v) ∧ ((∃ xs, S xs ∧ J xs W') ∨ ∃ pre, Sp pre ∧ Jx pre W')

/-- How a round's body is left: it goes on, or it returns. -/
def postX {α : Type} (B : Nat) (Kp : World → World → Prop) (I Ix : List α → World → Prop) (xs : List α) (W : World) : Exit → Act → World → Prop
  | .normal, _, V => KeepsFrom B W V ∧ Kp W V ∧ I xs V
  | .ret, _, V => KeepsFrom B W V ∧ Ix xs V
  | _, _, _ => False

theorem later_keep {A B : World} (h : Later A B) {k : Nat} {o : Obj} (ho : A.heap[k]? = some o) : B.heap[k]? = some o := (h.block k (Array.getElem?_eq_some_iff.1 ho).1).trans ho

theorem wpIn_rangeX {F : Fence} {n : Nat} {P : Program} {α : Type} {g : Operand} {ps : Array Tmp} {assign body : Code} {Q : Exit → Act → World → Prop} {a : Act} {w : World}
    (hro : F.round = none) (h1 : 1 ≤ n) {gf : Nat} {lb : Array Value} (hg : a.eval g = .func (.func gf) #[] lb) (hFg : F.fn gf) (eg : ∀ args w, (callFunc gf args).run P w = .ok (.enter gf args) w)
    {encs : α → Array Value} {Kp : World → World → Prop} {X : List α → α → World → Prop} {S Sp : List α → Prop} (hseq : GenX F (n - 1) P gf lb encs Kp X S Sp w)
    (hKt : ∀ {A B C : World}, Kp A B → Kp B C → Kp A C) (hKb : ∀ (W : World) (l : Nat) (o o' : Obj), w.heap.size ≤ l → W.heap[l]? = some o → o.isCells = false → o.isWalk = false → Kp W (W.putObj l o'))
    (hKl : ∀ {A B : World}, w.heap.size ≤ A.heap.size → Later A B → Kp A B) (hXl : ∀ pre x A B, X pre x A → Later A B → X pre x B)
    (hXb : ∀ pre x (W : World) (l : Nat) (o o' : Obj), w.heap.size ≤ l → W.heap[l]? = some o → o.isCells = false → X pre x W → X pre x (W.putObj l o')) (hps : ∀ x, (encs x).size = ps.size)
    (I Ix : List α → World → Prop) (hI : OwnFrom w.heap.size I) (hIl : ∀ s A B, I s A → Later A B → I s B) (hIx : OwnFrom w.heap.size Ix) (h0 : I [] w)
    (A : α → Act → World → Prop) (hA : ∀ x a' (W : World) (l : Nat) (o o' : Obj), w.heap.size ≤ l → W.heap[l]? = some o → o.isCells = false → A x a' W → A x a' (W.putObj l o'))
    (hassign : ∀ (l : Nat) (pre : List α) (x : α) (W : World) (K : Act → World → Prop), w.heap.size ≤ W.heap.size → I pre W → X pre x W → (∀ a' W', Later W W' → A x a' W' → K a' W') →
      assign.wpIn (F.inRound l) (n - 1 - 1) P (Exit.then K (fun _ _ _ => False)) { tmps := (ps.zip (encs x)).foldl (fun t (p, v) => t.setIfInBounds p v) a.tmps, defers := [] } W)
    (hbody : ∀ (l : Nat) (pre : List α) (x : α) (a' : Act) (W : World), I pre W → X pre x W → A x a' W → body.wpIn (F.inRound l) (n - 1 - 1) P (postX w.heap.size Kp I Ix (pre ++ [x]) W) a' W)
    (hdone : ∀ (D : Nat) (xs : List α) (W : World), w.heap.size ≤ D → S xs → I xs W → W.heap[D]? = some (.deferred (some [])) → Q .normal { a with defers := { target := .collected D, args := #[] } :: a.defers } W)
    (hstop : ∀ (D : Nat) (pre : List α) (W : World), w.heap.size ≤ D → Sp pre → Ix pre W → W.heap[D]? = some (.deferred (some [])) → Code.ret.wpIn F n P Q { a with defers := { target := .collected D, args := #[] } :: a.defers } W) :
    (Code.rangeFunc g ps assign body).wpIn F n P Q a w := by
  refine wpIn_rangeFunc fun fn hfn => ?_
  rw [hro]
  obtain ⟨rec, hrec⟩ : ∃ rec : LoopState → Option Code → Loop, rec = fun st pe => { state := st, pending := pe, fn, tmps := a.tmps, params := ps, assign, body, defers := w.heap.size } := ⟨_, rfl⟩
  obtain ⟨V, hV⟩ : ∃ V, (w.alloc (.deferred (some []))).alloc (.loop (rec .ready none)) = V := ⟨_, rfl⟩
  have hl : V.heap[w.heap.size + 1]? = some (.loop (rec .ready none)) := by
    have := World.alloc_heap_new (w.alloc (.deferred (some []))) (.loop (rec .ready none))
    rw [World.size_alloc] at this
    rw [← hV]
    exact this
  have hk : V.heap[w.heap.size]? = some (.deferred (some [])) := by
    rw [← hV]
    exact (Below.heap_alloc _ _ _ (by simp)).trans (World.alloc_heap_new w _)
  have hi : I [] V := by rw [← hV]; exact hI.alloc _ (hI.alloc _ h0)
  have hb : Below w.heap.size w V := by rw [← hV]; exact ((Below.refl _ w).alloc (Nat.le_refl _) _).alloc (by simp) _
  refine ⟨w.heap.size + 1, [{ target := .collected w.heap.size, args := #[] }], V, { target := .fn (.func gf) lb, args := #[.func (.yield (w.heap.size + 1)) #[] #[]] }, V, gf, #[.func (.yield (w.heap.size + 1)) #[] #[]] ++ lb, V, ?_, ?_, ?_, ?_, fun _ => h1, ?_⟩
  · rw [← hV, hrec]; exact run_enterLoop_outer _ _ _ _ _
  · simp only [resolve, hg]
    simp [go_sem]
  · intro f' hf'; simp [Target.leads] at hf'; subst hf'; exact hFg
  · simp [invoke, go_sem, eg]
  refine (hseq (w.heap.size + 1) (fun pre W => I pre W ∧ W.heap[w.heap.size + 1]? = some (.loop (rec .ready none)) ∧ W.heap[w.heap.size]? = some (.deferred (some [])))
    (fun pre W => Ix pre W ∧ W.heap[w.heap.size + 1]? = some (.loop (rec .done (some .ret))) ∧ W.heap[w.heap.size]? = some (.deferred (some []))) V hb
    (fun s A B hs h => ⟨hIl s A B hs.1 h, later_keep h hs.2.1, later_keep h hs.2.2⟩) ?_ ⟨hi, hl, hk⟩).mono ?_
  · rintro pre x W ⟨ji, jl, jk⟩ hx
    have hlt : w.heap.size + 1 < W.heap.size := (Array.getElem?_eq_some_iff.1 jl).1
    have hy := run_yield (P := P) (args := encs x) jl (by rw [hrec]; exact hps x)
    rw [hrec] at hy
    refine ⟨fn, _, assign, body, hy, roundIn_of_wpIn hfn (hassign _ pre x W _ (by omega) ji hx fun a' W' hL hAx => ?_)⟩
    have pL : Kp W W' := hKl (by omega) hL
    replace ji := hIl _ _ _ ji hL
    replace jl := later_keep hL jl
    replace jk := later_keep hL jk
    replace hx := hXl _ _ _ _ hx hL
    replace hlt : w.heap.size + 1 < W'.heap.size := (Array.getElem?_eq_some_iff.1 jl).1
    refine ⟨_, run_beginRound jl (by rw [hrec]), ?_⟩
    obtain ⟨U, hU⟩ : ∃ U, W'.putObj (w.heap.size + 1) (.loop { rec .ready none with state := .busy }) = U := ⟨_, rfl⟩
    have l2 : U.heap[w.heap.size + 1]? = some (.loop { rec .ready none with state := .busy }) := by rw [← hU]; exact World.putObj_heap_same hlt
    have k2 : U.heap[w.heap.size]? = some (.deferred (some [])) := by rw [← hU]; exact (World.putObj_heap_other (by omega)).trans jk
    have p2 : Kp W U := by rw [← hU]; exact hKt pL (hKb _ _ _ _ (by omega) jl rfl rfl)
    have a2 : A x a' U := by rw [← hU]; exact hA _ _ _ _ _ _ (by omega) jl rfl hAx
    have i2 : I pre U := by rw [← hU]; exact hI.putObj _ ji (by omega) jl rfl
    have x2 : X pre x U := by rw [← hU]; exact hXb _ _ _ _ _ _ (by omega) jl rfl hx
    rw [hU]
    refine wpIn_mono (hbody _ pre x a' U i2 x2 a2) ?_
    have fin : ∀ (jump : Option Code) (Z : World), KeepsFrom w.heap.size U Z →
        (Instr.endRound (w.heap.size + 1) jump).run P Z = .ok (.bool jump.isNone) (Z.putObj (w.heap.size + 1) (.loop (rec (if jump.isNone then .ready else .done) jump))) ∧ Z.heap[w.heap.size + 1]? = some (.loop { rec .ready none with state := .busy }) ∧
        (Z.putObj (w.heap.size + 1) (.loop (rec (if jump.isNone then .ready else .done) jump))).heap[w.heap.size + 1]? = some (.loop (rec (if jump.isNone then .ready else .done) jump)) ∧
        (Z.putObj (w.heap.size + 1) (.loop (rec (if jump.isNone then .ready else .done) jump))).heap[w.heap.size]? = some (.deferred (some [])) := fun jump Z hZ => by
      have l3 := hZ.same _ _ (by omega) l2 rfl
      have r3 := run_endRound (P := P) jump l3
      rw [hrec] at r3 ⊢
      exact ⟨r3, by rw [hrec] at l3; exact l3, World.putObj_heap_same (Array.getElem?_eq_some_iff.1 l3).1, (World.putObj_heap_other (by omega)).trans (hZ.same _ _ (Nat.le_refl _) k2 rfl)⟩
    rintro e a3 Z hp
    cases e with
    | normal =>
      obtain ⟨hZ, hp3, hi3⟩ := hp
      obtain ⟨hr, l3, l4, k4⟩ := fin none Z hZ
      exact ⟨_, _, hr, .inl ⟨rfl, ⟨hI.putObj _ hi3 (by omega) l3 rfl, l4, k4⟩, hKt (hKt p2 hp3) (hKb _ _ _ _ (by omega) l3 rfl rfl)⟩⟩
    | ret =>
      obtain ⟨hZ, hi3⟩ := hp
      obtain ⟨hr, l3, l4, k4⟩ := fin (some .ret) Z hZ
      exact ⟨_, _, hr, .inr ⟨rfl, hIx.putObj _ hi3 (by omega) l3 rfl, l4, k4⟩⟩
    | exit id => exact hp.elim
    | goto t => exact hp.elim
    | panic ch => exact hp.elim
    | outgrown => exact hp.elim
  · rintro e W2 ⟨⟨v, rfl⟩, (⟨xs, hS, ji, jl, jk⟩ | ⟨pre, hSp, ji, jl, jk⟩)⟩
    · exact ⟨none, _, by have := run_endLoop (P := P) jl (by rw [hrec]; simp); rw [hrec] at this; exact this, hdone _ xs _ (Nat.le_refl _) hS (hI.putObj _ ji (by omega) jl rfl) ((World.putObj_heap_other (by omega)).trans jk)⟩
    · exact ⟨some .ret, _, by have := run_endLoop (P := P) jl (by rw [hrec]; simp); rw [hrec] at this; exact this, hstop _ pre _ (Nat.le_refl _) hSp (hIx.putObj _ ji (by omega) jl rfl) ((World.putObj_heap_other (by omega)).trans jk)⟩
end Go.Proofs.YtohflohdbkamnaaGreatDoor

/- Regions that draw and make a block of their own: what stays. -/
namespace Go.Proofs.YtohflohdbkamnaaGreatDoor
open Go.RowKit Go.Shelf
set_option maxRecDepth 100000
set_option linter.unusedVariables false

/-- Blocks from n₁ on may turn; one that may be written stays so, and one that holds arr. -/
def KI (n₁ : Nat) (t : TypeId) (k : Nat) (arr : Array Value) (w w' : World) : Prop :=
  But (fun b => n₁ ≤ b) w w' ∧ (∀ pb, Wr pb k t w → Wr pb k t w') ∧ ∀ pb : Nat, w.heap[pb]? = some (Obj.cells arr t (0, 0)) → w'.heap[pb]? = some (Obj.cells arr t (0, 0))
theorem KI.pre (n₁ : Nat) (t : TypeId) (k : Nat) (arr : Array Value) : Pre (KI n₁ t k arr) :=
  ⟨fun a => ⟨But.refl _ a, fun _ h => h, fun _ h => h⟩, fun _ _ _ h l => ⟨h.1.trans l.1, fun pb g => l.2.1 pb (h.2.1 pb g), fun pb g => l.2.2 pb (h.2.2 pb g)⟩⟩
theorem KI.refl {n₁ : Nat} {t : TypeId} {k : Nat} {arr : Array Value} (a : World) : KI n₁ t k arr a a := (KI.pre n₁ t k arr).1 a
theorem KI.trans {n₁ : Nat} {t : TypeId} {k : Nat} {arr : Array Value} {a b c : World} (h : KI n₁ t k arr a b) (l : KI n₁ t k arr b c) : KI n₁ t k arr a c := (KI.pre n₁ t k arr).2 _ _ _ h l
theorem KI.of {n₁ : Nat} {t : TypeId} {k : Nat} {arr : Array Value} {a b : World} (l : Later a b) : KI n₁ t k arr a b :=
  ⟨But.of l, fun pb h => h.later l, fun pb h => (l.block pb (Array.getElem?_eq_some_iff.1 h).1).trans h⟩
theorem KI.store {n₁ pb : Nat} {t : TypeId} {k : Nat} {w : World} (vs : List Value) (hn : n₁ ≤ pb) (hw : Wr pb k t w) (hk : vs.length = k) : KI n₁ t k vs.toArray w (putRow w pb 0 vs) ∧ (putRow w pb 0 vs).heap[pb]? = some (Obj.cells vs.toArray t (0, 0)) := by
  obtain ⟨cur, hc, hs⟩ := hw
  have hall := putRow_all vs hc (by omega)
  have hbut : But (fun b => b = pb) w (putRow w pb 0 vs) := putRow_but (E := fun b => b = pb) (n := pb) rfl vs 0 w w (But.refl _ _)
  have keep : ∀ p o, p ≠ pb → w.heap[p]? = some o → (putRow w pb 0 vs).heap[p]? = some o := fun p o hp h => (hbut.block p (Array.getElem?_eq_some_iff.1 h).1 hp).trans h
  refine ⟨⟨putRow_but (E := fun b => n₁ ≤ b) (n := pb) hn vs 0 w w (But.refl _ _), fun p h => ?_, fun p h => ?_⟩, hall⟩
  · by_cases hp : p = pb
    · subst hp; exact ⟨_, hall, by simpa using hk⟩
    · obtain ⟨c, h1, h2⟩ := h; exact ⟨c, keep p _ hp h1, h2⟩
  · by_cases hp : p = pb
    · subst hp; exact hall
    · exact keep p _ hp h


section
variable {P : Program} {l : List Oper} {Q : Exit → Act → World → Prop} {fuel : Nat} {listed : Array Bool} {a : Act} {w : World} {R : World → World → Prop}
end
end Go.Proofs.YtohflohdbkamnaaGreatDoor

/- Regions that draw their order: an operation that only reads, and reads the same in every world that may follow, is taken first; what is left is taken as it comes, in the world that it leaves. -/
namespace Go.Proofs.YtohflohdbkamnaaGreatDoor
open Go.RowKit Go.Shelf
set_option maxRecDepth 100000
set_option linter.unusedVariables false

section
variable {P : Program} {ops : Array Oper} {Q : Exit → Act → World → Prop} {md : Region.Mode} {R : World → World → Prop}

def wpAnyT (P : Program) (md : Region.Mode) (ops : Array Oper) (Q : Exit → Act → World → Prop) (R : World → World → Prop) : Nat → Array Bool → Act → World → Prop
  | 0, listed, a, w => Region.ready md ops listed = [] ∧ Q .normal a w
  | fuel + 1, listed, a, w =>
    (Region.ready md ops listed = [] → Q .normal a w) ∧
    ∀ i ∈ Region.ready md ops listed, wpOp P ops Q i (fun a' w'' => R w w'' ∧ wpAnyT P md ops Q R fuel (listed.setIfInBounds i true) a' w'') a w

theorem wpAny_of_T : ∀ (fuel : Nat) (listed : Array Bool) (a : Act) (w : World), wpAnyT P md ops Q R fuel listed a w → wpAny P md ops Q fuel listed a w
  | 0, _, _, _, h => h
  | fuel + 1, _, _, _, h => ⟨h.1, fun i hi => wpOp_mono (fun a' w' h' => wpAny_of_T fuel _ a' w' h'.2) (h.2 i hi)⟩

/-- In every world that follows w the operation yields v, and leaves the world as it is. -/
def GivesP (P : Program) (R : World → World → Prop) (o : Oper) (v : Value) (a : Act) (w : World) : Prop :=
  o.guard = none ∧ ∀ w', R w w' → (execOp a.eval o).run P w' = .ok (.value v) w'
theorem GivesP.up {o : Oper} {v : Value} {a : Act} {w w' : World} (ht : ∀ a b c, R a b → R b c → R a c) (hy : GivesP P R o v a w) (h : R w w') : GivesP P R o v a w' := ⟨hy.1, fun w'' h' => hy.2 w'' (ht _ _ _ h h')⟩

theorem wpOp_putT {j : Nat} {oi oj : Oper} {v : Value} (hj : ops[j]? = some oj) (hap : oi.apart ops oj = true)
    (hsi : ∀ cs b, oi.op ≠ .select cs b) (hsj : ∀ cs b, oj.op ≠ .select cs b)
    (hQ : ∀ c a w, Q (.panic c) (a.put oi.dst v) w → Q (.panic c) a w) {K : Act → World → Prop} {a : Act} {w w₀ : World}
    (hy : GivesP P R oi v a w₀) (h : wpOp P ops Q j K (a.put oi.dst v) w) :
    wpOp P ops Q j (fun a' w' => GivesP P R oi v a' w₀ ∧ K (a'.put oi.dst v) w') a w := by
  obtain ⟨h1, h2, h3⟩ := Oper.apart_spec hap
  have keep : ∀ (a : Act), GivesP P R oi v a w₀ → ∀ u, GivesP P R oi v (a.put oj.dst u) w₀ := fun a hy u => by
    unfold GivesP at *
    rw [execOp_put oi hsi a oj.dst u h3]
    exact hy
  have keepD : ∀ d, GivesP P R oi v { a with defers := d :: a.defers } w₀ := fun d => hy
  unfold wpOp at *
  simp only [hj] at *
  rw [wanted_put oj a oi.dst v h1] at h
  split
  · rename_i hw
    simp only [hw, if_true] at h
    rcases h with h | ⟨hasks, hlets⟩
    case inr => exact .inr ⟨by unfold Oper.asks at *; rw [execOp_put oj hsj a oi.dst v h1] at hasks; exact hasks, hlets⟩
    refine .inl ?_
    unfold Oper.wp at *
    rw [execOp_put oj hsj a oi.dst v h1] at h
    generalize (execOp a.eval oj).run P w = r at *
    cases r with
    | ok n w' =>
      cases n <;> simp only [Oper.upon] at h ⊢
      case value u => exact ⟨keep a hy u, by rw [← Act.put_comm a v u h2]; exact h⟩
      case skip => exact ⟨keep a hy _, by rw [← Act.put_comm a v undef h2]; exact h⟩
      case defer d =>
        refine ⟨keep _ (keepD d) _, ?_⟩
        rw [← Act.put_comm _ v undef h2, ← Act.put_defers]
        exact h
      case enter f args =>
        refine Calls.mono h fun e w'' he => ?_
        cases e with
        | returned u => exact ⟨keep a hy u, by rw [← Act.put_comm a v u h2]; exact he⟩
        | panicked c => exact hQ _ _ _ he
        | outgrown => exact he
      case row row args => exact Rows.mono h fun u w'' he => ⟨keep a hy u, by rw [← Act.put_comm a v u h2]; exact he⟩
    | halt x w' =>
      cases x <;> simp only [Oper.upon] at h ⊢
      case panic u => exact hQ _ _ _ h
  · rename_i hw
    simp only [hw] at h
    exact ⟨keep a hy _, by rw [← Act.put_comm a v undef h2]; exact h⟩

theorem GivesP.wpOp {i : Nat} {o : Oper} {v : Value} {a : Act} {w : World} (hr : ∀ a, R a a) (hi : ops[i]? = some o) (hy : GivesP P R o v a w)
    {K : Act → World → Prop} (h : K (a.put o.dst v) w) : Go.wpOp P ops Q i K a w := by
  unfold Go.wpOp
  simp only [hi]
  have hw : Region.wanted o (yielded ops a.tmps) = true := by simp [Region.wanted, hy.1]
  simp only [hw, if_true]
  refine .inl ?_
  unfold Oper.wp
  rw [hy.2 w (hr w)]
  exact h

theorem wpAnyT_first (hre : ∀ a, R a a) (ht : ∀ a b c, R a b → R b c → R a c) {i : Nat} {oi : Oper} {v : Value} (hi : ops[i]? = some oi) (hsel : ∀ (j : Nat) (o : Oper) cs b, ops[j]? = some o → o.op ≠ .select cs b)
    (hQ : ∀ c a w, Q (.panic c) (a.put oi.dst v) w → Q (.panic c) a w) :
    ∀ (fuel : Nat) (listed : Array Bool) (a : Act) (w : World),
      (∀ j oj, ops[j]? = some oj → j ≠ i → listed.getD j true = false → (∀ e ∈ oj.after, Region.binds md e = true → e.on ≠ i) → oi.apart ops oj = true) →
      i ∈ Region.ready md ops listed → GivesP P R oi v a w →
      wpAnyT P md ops Q R fuel (listed.setIfInBounds i true) (a.put oi.dst v) w → wpAnyT P md ops Q R (fuel + 1) listed a w := by
  intro fuel
  induction fuel with
  | zero =>
    intro listed a w _ hr hy H
    refine ⟨fun h => (by rw [h] at hr; cases hr), fun j hj => ?_⟩
    by_cases hji : j = i
    · subst hji; exact hy.wpOp hre hi ⟨hre _, H⟩
    · have := ready_mono hj hji
      rw [H.1] at this
      cases this
  | succ fuel ih =>
    intro listed a w hfree hr hy H
    refine ⟨fun h => (by rw [h] at hr; cases hr), fun j hj => ?_⟩
    by_cases hji : j = i
    · subst hji; exact hy.wpOp hre hi ⟨hre _, H⟩
    · have h1 := H.2 j (ready_mono hj hji)
      obtain ⟨hjun, oj, hoj, hall⟩ := mem_ready.1 hj
      have hnot : ∀ e ∈ oj.after, Region.binds md e = true → e.on ≠ i := fun e he hb heq => by
        have h1 := hall e he hb
        have h0 := (mem_ready.1 hr).1
        rw [heq] at h1
        rcases Nat.lt_or_ge i listed.size with h' | h'
        · simp [h'] at h0 h1; rw [h0] at h1; cases h1
        · simp [Array.getElem?_eq_none h'] at h1
      have h2 := wpOp_putT hoj (hfree j oj hoj hji hjun hnot) (fun cs b => hsel i oi cs b hi) (fun cs b => hsel j oj cs b hoj) hQ hy h1
      have hfree' : ∀ k ok, ops[k]? = some ok → k ≠ i → (listed.setIfInBounds j true).getD k true = false →
          (∀ e ∈ ok.after, Region.binds md e = true → e.on ≠ i) → oi.apart ops ok = true := fun k ok hk hki hun hno => by
        refine hfree k ok hk hki ?_ hno
        by_cases hjk : j = k
        · subst hjk; exact hjun
        · rw [getD_set_ne true hjk] at hun; exact hun
      refine wpOp_mono (fun a' w'' h3 => ⟨h3.2.1, ih (listed.setIfInBounds j true) a' w'' hfree' (ready_mono hr (Ne.symm hji)) (h3.1.up ht h3.2.1) ?_⟩) h2
      rw [Array.setIfInBounds_comm _ _ hji]
      exact h3.2.2
end

section
variable {P : Program} {l : List Oper} {Q : Exit → Act → World → Prop} {fuel : Nat} {listed : Array Bool} {a : Act} {w : World} {R : World → World → Prop}
theorem anyT_val (hp : Pre R) (i : Nat) {oi : Oper} (hi : nthOp l i = some oi)
    (hs : Region.noSelect l.toArray = true) (hf : Region.free .any l.toArray listed i = true) (hr : (Region.ready .any l.toArray listed).contains i = true)
    (hQ : ∀ v c a w, Q (.panic c) (a.put oi.dst v) w → Q (.panic c) a w) (hg : oi.guard = none)
    (h : ∃ v, (∀ w', R w w' → (execOp a.eval oi).run P w' = .ok (.value v) w') ∧ wpAnyT P .any l.toArray Q R fuel (listed.setIfInBounds i true) (a.put oi.dst v) w) : wpAnyT P .any l.toArray Q R (fuel + 1) listed a w := by
  obtain ⟨v, h1, h2⟩ := h
  have hi' : l.toArray[i]? = some oi := by rw [← hi, nthOp_eq]; simp
  exact wpAnyT_first hp.1 hp.2 hi' (Region.noSelect_spec hs) (hQ v) fuel listed a w (Region.free_spec hi' hf) (by simpa using hr) ⟨hg, h1⟩ h2
theorem anyT_begin {id : Nat} (n : Nat) (hn : l.length = n) (hm : P.follows .mixedOrders = true)
    (h : wpAnyT P .any l.toArray Q R n (Array.replicate n false) a w.drew) : (Code.region id l.toArray true).wp P Q a w := by
  subst hn
  refine wp_region_any hm (wpAny_of_T (R := R) _ _ _ _ ?_)
  simpa using h
theorem anyT_done (hr : Region.ready .any l.toArray listed = []) (h : Q .normal a w) : wpAnyT P .any l.toArray Q R fuel listed a w := by
  cases fuel with
  | zero => exact ⟨hr, h⟩
  | succ n => exact ⟨fun _ => h, by rw [hr]; simp⟩
theorem anyT_one (i : Nat) {oi : Oper} (hi : nthOp l i = some oi) (hr : Region.ready .any l.toArray listed = [i]) (gi : oi.guard = none)
    (h1 : oi.wp P a w (fun a' w'' => R w w'' ∧ wpAnyT P .any l.toArray Q R fuel (listed.setIfInBounds i true) a' w'') Q) :
    wpAnyT P .any l.toArray Q R (fuel + 1) listed a w := by
  have hi' : l.toArray[i]? = some oi := by rw [← hi, nthOp_eq]; simp
  refine ⟨fun h0 => (by rw [hr] at h0; cases h0), fun k hk => ?_⟩
  rw [hr] at hk
  unfold wpOp
  obtain rfl : k = i := by simpa using hk
  rw [hi']; simp only [Region.wanted, gi]; exact .inl h1
theorem anyT_two (i j : Nat) {oi oj : Oper} (hi : nthOp l i = some oi) (hj : nthOp l j = some oj) (hr : Region.ready .any l.toArray listed = [i, j]) (gi : oi.guard = none) (gj : oj.guard = none)
    (h1 : oi.wp P a w (fun a' w'' => R w w'' ∧ wpAnyT P .any l.toArray Q R fuel (listed.setIfInBounds i true) a' w'') Q)
    (h2 : oj.wp P a w (fun a' w'' => R w w'' ∧ wpAnyT P .any l.toArray Q R fuel (listed.setIfInBounds j true) a' w'') Q) :
    wpAnyT P .any l.toArray Q R (fuel + 1) listed a w := by
  have hi' : l.toArray[i]? = some oi := by rw [← hi, nthOp_eq]; simp
  have hj' : l.toArray[j]? = some oj := by rw [← hj, nthOp_eq]; simp
  refine ⟨fun h0 => (by rw [hr] at h0; cases h0), fun k hk => ?_⟩
  rw [hr] at hk
  unfold wpOp
  have hk' : k = i ∨ k = j := by simpa using hk
  rcases hk' with rfl | rfl
  · rw [hi']; simp only [Region.wanted, gi]; exact .inl h1
  · rw [hj']; simp only [Region.wanted, gj]; exact .inl h2
end
end Go.Proofs.YtohflohdbkamnaaGreatDoor

/- Regions that draw their order, with guards: an operation that only reckons is taken first, one that is alone is taken in its world. -/
namespace Go.Proofs.YtohflohdbkamnaaGreatDoor
open Go.RowKit Go.Shelf
set_option maxRecDepth 100000
set_option linter.unusedVariables false

section
variable {P : Program} {ops : Array Oper} {Q : Exit → Act → World → Prop} {md : Region.Mode} {R : World → World → Prop}
def GivesG (P : Program) (ops : Array Oper) (R : World → World → Prop) (o : Oper) (v : Value) (a : Act) (w : World) : Prop :=
  Region.wanted o (yielded ops a.tmps) = true ∧ ∀ w', R w w' → (execOp a.eval o).run P w' = .ok (.value v) w'
theorem GivesG.of_same {o : Oper} {v : Value} {a a' : Act} {w : World} (hy : GivesG P ops R o v a w) (he : execOp a'.eval o = execOp a.eval o)
    (hw : Region.wanted o (yielded ops a'.tmps) = Region.wanted o (yielded ops a.tmps)) : GivesG P ops R o v a' w := by
  unfold GivesG at *
  rw [he, hw]
  exact hy
theorem GivesG.up {o : Oper} {v : Value} {a : Act} {w w' : World} (ht : ∀ a b c, R a b → R b c → R a c) (hy : GivesG P ops R o v a w) (h : R w w') : GivesG P ops R o v a w' := ⟨hy.1, fun w'' h' => hy.2 w'' (ht _ _ _ h h')⟩

theorem wpOp_putG {j : Nat} {oi oj : Oper} {v : Value} (hj : ops[j]? = some oj) (hap : oi.apart ops oj = true)
    (hsi : ∀ cs b, oi.op ≠ .select cs b) (hsj : ∀ cs b, oj.op ≠ .select cs b)
    (hQ : ∀ c a w, Q (.panic c) (a.put oi.dst v) w → Q (.panic c) a w) {K : Act → World → Prop} {a : Act} {w w₀ : World}
    (hy : GivesG P ops R oi v a w₀) (h : wpOp P ops Q j K (a.put oi.dst v) w) :
    wpOp P ops Q j (fun a' w' => GivesG P ops R oi v a' w₀ ∧ K (a'.put oi.dst v) w') a w := by
  obtain ⟨h1, h2, h3⟩ := Oper.apart_spec hap
  have keep : ∀ (a : Act), GivesG P ops R oi v a w₀ → ∀ u, GivesG P ops R oi v (a.put oj.dst u) w₀ := fun a hy u =>
    hy.of_same (execOp_put oi hsi a oj.dst u h3) (wanted_put oi a oj.dst u h3)
  have keepD : ∀ d, GivesG P ops R oi v { a with defers := d :: a.defers } w₀ := fun d => hy.of_same rfl rfl
  unfold wpOp at *
  simp only [hj] at *
  rw [wanted_put oj a oi.dst v h1] at h
  split
  · rename_i hw
    simp only [hw, if_true] at h
    rcases h with h | ⟨hasks, hlets⟩
    case inr => exact .inr ⟨by unfold Oper.asks at *; rw [execOp_put oj hsj a oi.dst v h1] at hasks; exact hasks, hlets⟩
    refine .inl ?_
    unfold Oper.wp at *
    rw [execOp_put oj hsj a oi.dst v h1] at h
    generalize (execOp a.eval oj).run P w = r at *
    cases r with
    | ok n w' =>
      cases n <;> simp only [Oper.upon] at h ⊢
      case value u => exact ⟨keep a hy u, by rw [← Act.put_comm a v u h2]; exact h⟩
      case skip => exact ⟨keep a hy _, by rw [← Act.put_comm a v undef h2]; exact h⟩
      case defer d =>
        refine ⟨keep _ (keepD d) _, ?_⟩
        rw [← Act.put_comm _ v undef h2, ← Act.put_defers]
        exact h
      case enter f args =>
        refine Calls.mono h fun e w'' he => ?_
        cases e with
        | returned u => exact ⟨keep a hy u, by rw [← Act.put_comm a v u h2]; exact he⟩
        | panicked c => exact hQ _ _ _ he
        | outgrown => exact he
      case row row args => exact Rows.mono h fun u w'' he => ⟨keep a hy u, by rw [← Act.put_comm a v u h2]; exact he⟩
    | halt x w' =>
      cases x <;> simp only [Oper.upon] at h ⊢
      case panic u => exact hQ _ _ _ h
  · rename_i hw
    simp only [hw] at h
    exact ⟨keep a hy _, by rw [← Act.put_comm a v undef h2]; exact h⟩

theorem GivesG.wpOp {i : Nat} {o : Oper} {v : Value} {a : Act} {w : World} (hr : ∀ a, R a a) (hi : ops[i]? = some o) (hy : GivesG P ops R o v a w)
    {K : Act → World → Prop} (h : K (a.put o.dst v) w) : Go.wpOp P ops Q i K a w := by
  unfold Go.wpOp
  simp only [hi, hy.1, if_true]
  refine .inl ?_
  unfold Oper.wp
  rw [hy.2 w (hr w)]
  exact h

end

section
variable {P : Program} {l : List Oper} {Q : Exit → Act → World → Prop} {fuel : Nat} {listed : Array Bool} {a : Act} {w : World} {R : World → World → Prop}
end
end Go.Proofs.YtohflohdbkamnaaGreatDoor

/- Regions that draw their order: some operations (those of D) may turn more than the others; what is read ahead of them is taken first. -/
namespace Go.Proofs.YtohflohdbkamnaaGreatDoor
open Go.RowKit Go.Shelf
set_option maxRecDepth 100000
set_option linter.unusedVariables false

def Rj (R1 R2 : World → World → Prop) (D : List Nat) (j : Nat) : World → World → Prop := if D.contains j = true then R2 else R1
theorem Rj_in {R1 R2 : World → World → Prop} {D : List Nat} {j : Nat} (h : D.contains j = true) {w w' : World} (k : R2 w w') : Rj R1 R2 D j w w' := by unfold Rj; rw [if_pos h]; exact k
theorem Rj_out {R1 R2 : World → World → Prop} {D : List Nat} {j : Nat} (h : D.contains j = false) {w w' : World} (k : R1 w w') : Rj R1 R2 D j w w' := by unfold Rj; rw [if_neg (by rw [h]; simp)]; exact k

section
variable {P : Program} {ops : Array Oper} {Q : Exit → Act → World → Prop} {md : Region.Mode} {R1 R2 S : World → World → Prop} {D : List Nat}
def wpAnyU (P : Program) (md : Region.Mode) (ops : Array Oper) (Q : Exit → Act → World → Prop) (R1 R2 : World → World → Prop) (D : List Nat) : Nat → Array Bool → Act → World → Prop
  | 0, listed, a, w => Region.ready md ops listed = [] ∧ Q .normal a w
  | fuel + 1, listed, a, w =>
    (Region.ready md ops listed = [] → Q .normal a w) ∧
    ∀ i ∈ Region.ready md ops listed, wpOp P ops Q i (fun a' w'' => Rj R1 R2 D i w w'' ∧ wpAnyU P md ops Q R1 R2 D fuel (listed.setIfInBounds i true) a' w'') a w

theorem wpAny_of_U : ∀ (fuel : Nat) (listed : Array Bool) (a : Act) (w : World), wpAnyU P md ops Q R1 R2 D fuel listed a w → wpAny P md ops Q fuel listed a w
  | 0, _, _, _, h => h
  | fuel + 1, _, _, _, h => ⟨h.1, fun i hi => wpOp_mono (fun a' w' h' => wpAny_of_U fuel _ a' w' h'.2) (h.2 i hi)⟩

theorem wpAnyU_first (hre : ∀ a, S a a) (ht : ∀ a b c, S a b → S b c → S a c) {i : Nat} {oi : Oper} {v : Value} (hi : ops[i]? = some oi) (hself : ∀ w, Rj R1 R2 D i w w) (hsel : ∀ (j : Nat) (o : Oper) cs b, ops[j]? = some o → o.op ≠ .select cs b)
    (hQ : ∀ c a w, Q (.panic c) (a.put oi.dst v) w → Q (.panic c) a w) (Inv : Array Bool → Prop)
    (hInv : ∀ listed, Inv listed → listed.getD i true = false → ∀ j ∈ Region.ready md ops listed, j ≠ i → (∀ w w', Rj R1 R2 D j w w' → S w w') ∧ Inv (listed.setIfInBounds j true)) :
    ∀ (fuel : Nat) (listed : Array Bool) (a : Act) (w : World), Inv listed →
      (∀ j oj, ops[j]? = some oj → j ≠ i → listed.getD j true = false → (∀ e ∈ oj.after, Region.binds md e = true → e.on ≠ i) → oi.apart ops oj = true) →
      i ∈ Region.ready md ops listed → GivesG P ops S oi v a w →
      wpAnyU P md ops Q R1 R2 D fuel (listed.setIfInBounds i true) (a.put oi.dst v) w → wpAnyU P md ops Q R1 R2 D (fuel + 1) listed a w := by
  intro fuel
  induction fuel with
  | zero =>
    intro listed a w _ _ hr hy H
    refine ⟨fun h => (by rw [h] at hr; cases hr), fun j hj => ?_⟩
    by_cases hji : j = i
    · subst hji; exact hy.wpOp hre hi ⟨hself _, H⟩
    · have := ready_mono hj hji
      rw [H.1] at this
      cases this
  | succ fuel ih =>
    intro listed a w hinv hfree hr hy H
    refine ⟨fun h => (by rw [h] at hr; cases hr), fun j hj => ?_⟩
    by_cases hji : j = i
    · subst hji; exact hy.wpOp hre hi ⟨hself _, H⟩
    · have h1 := H.2 j (ready_mono hj hji)
      obtain ⟨hjun, oj, hoj, hall⟩ := mem_ready.1 hj
      have hnot : ∀ e ∈ oj.after, Region.binds md e = true → e.on ≠ i := fun e he hb heq => by
        have h1 := hall e he hb
        have h0 := (mem_ready.1 hr).1
        rw [heq] at h1
        rcases Nat.lt_or_ge i listed.size with h' | h'
        · simp [h'] at h0 h1; rw [h0] at h1; cases h1
        · simp [Array.getElem?_eq_none h'] at h1
      have h2 := wpOp_putG hoj (hfree j oj hoj hji hjun hnot) (fun cs b => hsel i oi cs b hi) (fun cs b => hsel j oj cs b hoj) hQ hy h1
      have hfree' : ∀ k ok, ops[k]? = some ok → k ≠ i → (listed.setIfInBounds j true).getD k true = false →
          (∀ e ∈ ok.after, Region.binds md e = true → e.on ≠ i) → oi.apart ops ok = true := fun k ok hk hki hun hno => by
        refine hfree k ok hk hki ?_ hno
        by_cases hjk : j = k
        · subst hjk; exact hjun
        · rw [getD_set_ne true hjk] at hun; exact hun
      obtain ⟨hs, hinv'⟩ := hInv listed hinv (mem_ready.1 hr).1 j hj hji
      refine wpOp_mono (fun a' w'' h3 => ⟨h3.2.1, ih (listed.setIfInBounds j true) a' w'' hinv' hfree' (ready_mono hr (Ne.symm hji)) (h3.1.up ht (hs _ _ h3.2.1)) ?_⟩) h2
      rw [Array.setIfInBounds_comm _ _ hji]
      exact h3.2.2
/-- None of D can be taken as long as i is not. -/
def blocks (md : Region.Mode) (ops : Array Oper) (D : List Nat) (i : Nat) : Bool := D.all fun d => match ops[d]? with
  | some o => o.after.any fun e => Region.binds md e && (e.on == i || D.contains e.on)
  | none => false
theorem blocks_spec {i : Nat} (h : blocks md ops D i = true) {listed : Array Bool} (hi : listed.getD i true = false) (hD : ∀ d ∈ D, listed.getD d true = false) {j : Nat} (hj : j ∈ Region.ready md ops listed) : j ∉ D := fun hjD => by
  obtain ⟨_, o, ho, hall⟩ := mem_ready.1 hj
  unfold blocks at h
  rw [List.all_eq_true] at h
  have h1 := h j hjD
  rw [ho] at h1
  simp only [Array.any_eq_true] at h1
  obtain ⟨k, hk, he⟩ := h1
  simp only [Bool.and_eq_true, Bool.or_eq_true, beq_iff_eq] at he
  have hl := hall o.after[k] (Array.getElem_mem hk) he.1
  have no : ∀ x, listed.getD x true = false → listed.getD x false = true → False := fun x h0 h1 => by
    rcases Nat.lt_or_ge x listed.size with h' | h'
    · simp [h'] at h0 h1; rw [h0] at h1; cases h1
    · simp [Array.getElem?_eq_none h'] at h1
  rcases he.2 with e | e
  · rw [e] at hl
    exact no i hi hl
  · exact no _ (hD _ (by simpa using e)) hl
end

section
variable {P : Program} {l : List Oper} {Q : Exit → Act → World → Prop} {fuel : Nat} {listed : Array Bool} {a : Act} {w : World} {R1 R2 S : World → World → Prop} {D : List Nat}
/-- What is read ahead of those of D: none of B, among which they are, can be taken as long as it is not. -/
theorem anyU_val (hp : Pre R1) (i : Nat) (B : List Nat) {oi : Oper} (hi : nthOp l i = some oi) (hiD : D.contains i = false) (hsub : D.all (fun d => B.contains d) = true) (hbl : blocks .any l.toArray B i = true) (hun : B.all (fun d => !(listed.getD d true)) = true)
    (hs : Region.noSelect l.toArray = true) (hf : Region.free .any l.toArray listed i = true) (hr : (Region.ready .any l.toArray listed).contains i = true)
    (hQ : ∀ v c a w, Q (.panic c) (a.put oi.dst v) w → Q (.panic c) a w) (hg : Region.wanted oi (yielded l.toArray a.tmps) = true)
    (h : ∃ v, (∀ w', R1 w w' → (execOp a.eval oi).run P w' = .ok (.value v) w') ∧ wpAnyU P .any l.toArray Q R1 R2 D fuel (listed.setIfInBounds i true) (a.put oi.dst v) w) : wpAnyU P .any l.toArray Q R1 R2 D (fuel + 1) listed a w := by
  obtain ⟨v, h1, h2⟩ := h
  have hi' : l.toArray[i]? = some oi := by rw [← hi, nthOp_eq]; simp
  have hunp : ∀ d ∈ B, listed.getD d true = false := fun d hd => by
    have := List.all_eq_true.1 hun d hd
    simpa using this
  refine wpAnyU_first (S := R1) hp.1 hp.2 hi' (fun w => Rj_out hiD (hp.1 w)) (Region.noSelect_spec hs) (hQ v) (fun listed => ∀ d ∈ B, listed.getD d true = false) ?_ fuel listed a w hunp (Region.free_spec hi' hf) (by simpa using hr) ⟨hg, h1⟩ h2
  intro listed' hinv hiu j hj hji
  have hjB := blocks_spec hbl hiu hinv hj
  have hjD : j ∉ D := fun hd => hjB (by simpa using List.all_eq_true.1 hsub j hd)
  have hjc : D.contains j = false := by cases hc : D.contains j with | false => rfl | true => exact absurd (by simpa using hc) hjD
  refine ⟨fun w w' hR => by unfold Rj at hR; rw [if_neg (by rw [hjc]; simp)] at hR; exact hR, fun d hd => ?_⟩
  by_cases hdj : j = d
  · subst hdj; exact absurd hd hjB
  · rw [getD_set_ne true hdj]; exact hinv d hd
theorem anyU_begin {id : Nat} (n : Nat) (hn : l.length = n) (hm : P.follows .mixedOrders = true)
    (h : wpAnyU P .any l.toArray Q R1 R2 D n (Array.replicate n false) a w.drew) : (Code.region id l.toArray true).wp P Q a w := by
  subst hn
  refine wp_region_any hm (wpAny_of_U (R1 := R1) (R2 := R2) (D := D) _ _ _ _ ?_)
  simpa using h
theorem anyU_done (hr : Region.ready .any l.toArray listed = []) (h : Q .normal a w) : wpAnyU P .any l.toArray Q R1 R2 D fuel listed a w := by
  cases fuel with
  | zero => exact ⟨hr, h⟩
  | succ n => exact ⟨fun _ => h, by rw [hr]; simp⟩
theorem anyU_one (i : Nat) {oi : Oper} (hi : nthOp l i = some oi) (hr : Region.ready .any l.toArray listed = [i]) (hg : Region.wanted oi (yielded l.toArray a.tmps) = true)
    (h1 : oi.wp P a w (fun a' w'' => Rj R1 R2 D i w w'' ∧ wpAnyU P .any l.toArray Q R1 R2 D fuel (listed.setIfInBounds i true) a' w'') Q) :
    wpAnyU P .any l.toArray Q R1 R2 D (fuel + 1) listed a w := by
  have hi' : l.toArray[i]? = some oi := by rw [← hi, nthOp_eq]; simp
  refine ⟨fun h0 => (by rw [hr] at h0; cases h0), fun k hk => ?_⟩
  rw [hr] at hk
  unfold wpOp
  obtain rfl : k = i := by simpa using hk
  rw [hi']; simp only [hg, if_true]; exact .inl h1
end
end Go.Proofs.YtohflohdbkamnaaGreatDoor

/- Mathematics of words of 64 bits: the count of ones. -/
namespace Go.Proofs.YtohflohdbkamnaaGreatDoor.Pm
set_option maxRecDepth 100000
/-- Ones among the first n bits. -/
def pcn (n x : Nat) : Nat := (List.range n).countP (fun i => x.testBit i)
theorem tb (a b j : Nat) (h : b < 256) : (a * 256 + b).testBit j = if j < 8 then b.testBit j else a.testBit (j - 8) := by
  have := Nat.testBit_two_pow_mul_add a (b := b) (i := 8) (by simpa using h) j
  rw [show (2 : Nat) ^ 8 = 256 from rfl] at this
  rw [Nat.mul_comm a 256]
  exact this
def M (v : Nat) : Nat → Nat
  | 0 => 0
  | n + 1 => M v n * 256 + v
def f1 (n x : Nat) : Nat := (x / 2 &&& M 85 n) + (x &&& M 85 n)
def f2 (n x : Nat) : Nat := (x / 4 &&& M 51 n) + (x &&& M 51 n)
def f3 (n x : Nat) : Nat := (x / 16 + x) &&& M 15 n
def h1 (b : Nat) : Nat := (b / 2 &&& 85) + (b &&& 85)
def h2 (b : Nat) : Nat := (b / 4 &&& 51) + (b &&& 51)
def F (n x : Nat) : Nat := f3 n (f2 n (f1 n x))
end Go.Proofs.YtohflohdbkamnaaGreatDoor.Pm

/- Package pool: words of a set; bit, has, add, remove. -/
namespace Go.Proofs.YtohflohdbkamnaaGreatDoor
open Go.RowKit Go.Shelf
set_option maxRecDepth 100000
set_option linter.unusedVariables false
set_option linter.unusedSimpArgs false

theorem wrapN (x : Nat) (h : x < 18446744073709551616) : IntKind.u64.wrap (x : Int) = (x : Int) := by rw [IntKind.wrap_u64]; omega

theorem s1 (x : Nat) (hx : x < 18446744073709551616) : IntKind.u64.wrap (bits BinOp.and IntKind.u64 ((x : Int) / 2) 6148914691236517205 + bits BinOp.and IntKind.u64 (x : Int) 6148914691236517205) = ((Pm.f1 8 x : Nat) : Int) ∧ Pm.f1 8 x ≤ 12297829382473034410 := by
  have e1 := bits_and_u64_nat (x / 2) 6148914691236517205 (by omega) (by omega)
  have e2 := bits_and_u64_nat x 6148914691236517205 hx (by omega)
  have h1 : x / 2 &&& 6148914691236517205 ≤ 6148914691236517205 := Nat.and_le_right
  have h2 : x &&& 6148914691236517205 ≤ 6148914691236517205 := Nat.and_le_right
  have e : Pm.f1 8 x = (x / 2 &&& 6148914691236517205) + (x &&& 6148914691236517205) := rfl
  rw [e, show (x : Int) / 2 = ((x / 2 : Nat) : Int) from by omega, show (6148914691236517205 : Int) = ((6148914691236517205 : Nat) : Int) from rfl, e1, e2, ← Int.natCast_add]
  exact ⟨wrapN _ (by omega), by omega⟩
theorem s2 (x : Nat) (hx : x < 18446744073709551616) : IntKind.u64.wrap (bits BinOp.and IntKind.u64 ((x : Int) / 4) 3689348814741910323 + bits BinOp.and IntKind.u64 (x : Int) 3689348814741910323) = ((Pm.f2 8 x : Nat) : Int) ∧ Pm.f2 8 x ≤ 7378697629483820646 := by
  have e1 := bits_and_u64_nat (x / 4) 3689348814741910323 (by omega) (by omega)
  have e2 := bits_and_u64_nat x 3689348814741910323 hx (by omega)
  have h1 : x / 4 &&& 3689348814741910323 ≤ 3689348814741910323 := Nat.and_le_right
  have h2 : x &&& 3689348814741910323 ≤ 3689348814741910323 := Nat.and_le_right
  have e : Pm.f2 8 x = (x / 4 &&& 3689348814741910323) + (x &&& 3689348814741910323) := rfl
  rw [e, show (x : Int) / 4 = ((x / 4 : Nat) : Int) from by omega, show (3689348814741910323 : Int) = ((3689348814741910323 : Nat) : Int) from rfl, e1, e2, ← Int.natCast_add]
  exact ⟨wrapN _ (by omega), by omega⟩
theorem s3 (x : Nat) (hx : x ≤ 7378697629483820646) : bits BinOp.and IntKind.u64 (IntKind.u64.wrap ((x : Int) / 16 + (x : Int))) 1085102592571150095 = ((Pm.f3 8 x : Nat) : Int) := by
  have e : Pm.f3 8 x = (x / 16 + x) &&& 1085102592571150095 := rfl
  rw [e, show (x : Int) / 16 + (x : Int) = ((x / 16 + x : Nat) : Int) from by omega, wrapN _ (by omega)]
  exact bits_and_u64_nat (x / 16 + x) 1085102592571150095 (by omega) (by omega)
/-- The cells of a pool: from, to, and the words of what is free. -/
def pcl (low high : Int) (ws : Nat → Nat) : List Value := .int .u16 low :: .int .u16 high :: (List.range 1024).map (fun i => .int .u64 (ws i : Int))
def PB (base : Nat) (W : World) (b : Nat) (low high : Int) (ws : Nat → Nat) : Prop := base ≤ b ∧ (∀ i, ws i < 18446744073709551616) ∧ W.heap[b]? = some (.cells (pcl low high ws).toArray 189 (0, 0))
theorem PB.later {base : Nat} {A B : World} {b : Nat} {low high : Int} {ws : Nat → Nat} (h : PB base A b low high ws) (l : Later A B) : PB base B b low high ws := ⟨h.1, h.2.1, later_keep l h.2.2⟩
theorem PB.lt {base : Nat} {W : World} {b : Nat} {low high : Int} {ws : Nat → Nat} (h : PB base W b low high ws) : b < W.heap.size := (Array.getElem?_eq_some_iff.1 h.2.2).1
theorem PB.word {base : Nat} {W : World} {b : Nat} {low high : Int} {ws : Nat → Nat} (h : PB base W b low high ws) (i : Nat) (hi : i < 1024) : W.cell? ⟨b, 2 + i, none⟩ = some (.int .u64 (ws i : Int)) := by
  rw [block_cell h.2.2, List.getElem?_toArray]
  unfold pcl
  rw [show 2 + i = i + 1 + 1 from by omega, List.getElem?_cons_succ, List.getElem?_cons_succ, List.getElem?_map, List.getElem?_range hi]
  rfl
theorem PB.low {base : Nat} {W : World} {b : Nat} {low high : Int} {ws : Nat → Nat} (h : PB base W b low high ws) : W.cell? ⟨b, 0, none⟩ = some (.int .u16 low) := by
  rw [block_cell h.2.2]; rfl
theorem PB.high {base : Nat} {W : World} {b : Nat} {low high : Int} {ws : Nat → Nat} (h : PB base W b low high ws) : W.cell? ⟨b, 1, none⟩ = some (.int .u16 high) := by
  rw [block_cell h.2.2]; rfl
end Go.Proofs.YtohflohdbkamnaaGreatDoor
