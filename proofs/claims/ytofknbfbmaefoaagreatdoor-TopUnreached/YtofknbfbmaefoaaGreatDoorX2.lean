import Derived.Test.YtofknbfbmaefoaaGreatDoorX3
import Derived.Test.YtofknbfbmaefoaaGreatDoorX6
import Derived.Lib.AppendZeros
import Derived.Deep.Cut
import Derived.Test.YtofknbfbmaefoaaGreatDoorX18
import Derived.Test.YtofknbfbmaefoaaGreatDoorX15
import Derived.Test.YtofknbfbmaefoaaGreatDoorX10
import Derived.Test.YtofknbfbmaefoaaGreatDoorX13
import Derived.Test.YtofknbfbmaefoaaGreatDoorX11
namespace Go.Proofs.YtofknbfbmaefoaaGreatDoor
open Go.RowKit Go.Shelf
set_option maxRecDepth 100000
set_option linter.unusedVariables false
set_option linter.unusedSimpArgs false
def UP (g : Nat) (u : Un) (w w' : World) : Prop := But (fun q => q = g) w w' ∧ ((∃ bv, UB w g u bv) → ∃ bv, UB w' g u bv)
theorem UP.pre (g : Nat) (u : Un) : Pre (UP g u) := ⟨fun w => ⟨But.refl _ _, id⟩, fun _ _ _ h k => ⟨h.1.trans k.1, fun x => k.2 (h.2 x)⟩⟩
theorem UP.of {g : Nat} {u : Un} {w w' : World} (l : Later w w') : UP g u w w' := ⟨But.of l, fun ⟨bv, h⟩ => ⟨bv, h.later l⟩⟩
set_option maxHeartbeats 4000000 in
theorem uqmessage_any (base : Nat) (g : Nat) (u : Un) (zs : List Int) (w : World) (hB : Mt.By zs) (h : UR w g u zs) (hb : base ≤ w.heap.size) (hl : zs.length ≤ 140737488355328) (h8 : 8 ≤ zs.length) (hu : UOk u) (hw : UOw u) :
  Calls Tryz.prog 257 #[.pointer (some ⟨g, 0, none⟩)] w fun e w' => UQ base w g u (qsI u zs) e w' := by
 obtain ⟨hs, hd, ha, hbb⟩ := hu
 obtain ⟨hs1, hd1, ha1, hb1⟩ := hw
 have H1 := hide (uput_any base g u zs 4 u.a w h hb hl ha)
 rw [putAt2_lit zs 4 4 u.a rfl (by omega)] at H1
 have hB1 := hB.put2 4 ha
 have hL1 := Mt.put2_length zs 4 u.a
 have HR : Hid (qsI u zs = putAt2 (Mt.put2 zs 4 u.a) 2 (ptv (getAt2 (Mt.put2 zs 4 u.a) 2) u.a1 u.a)) := rfl
 generalize Mt.put2 zs 4 u.a = z1 at *
 have hl1 : z1.length ≤ 140737488355328 := by omega
 clear hL1
 obtain ⟨bv, hU, _⟩ := id h
 have CU := block_cell hU
 simp only [unc] at CU
 go_enter Tryz.func257, Tryz.ntmps257
 go_wp2_with fail
 refine H1.out.mono ?_
 rintro e w1 ⟨rfl, S1, b1⟩
 clear CU hU
 have hg2 : 0 ≤ getAt2 z1 2 ∧ getAt2 z1 2 ≤ 65535 := by unfold getAt2; split; exact wat_bd hB1 _; omega
 have HGT := hide (fun v (h : UR v g u z1) => uget_any (n := 0) g u z1 hB1 2 v h)
 generalize getAt2 z1 2 = c2 at *
 go_upto_region 1 with fail
 refine anyT_begin (R := UP g u) 15 rfl (by kernel_rfl) ?_
 have hdr : Later w1 w1.drew := Later.drew w1
 have S2 := S1.later hdr
 have b2 : But (fun q => q = g) w w1.drew := b1.trans (But.of hdr)
 generalize w1.drew = w2 at *
 have S2' := hide S2
 obtain ⟨bv2, hU2, _⟩ := S2
 have q1 : ∀ v1, UP g u w2 v1 → v1.cell? ⟨g, 4, none⟩ = some (.int .u16 u.a1) ∧ v1.cell? ⟨g, 9, none⟩ = some (.int .u16 u.a) := fun v1 hv => by
  obtain ⟨bv, hx⟩ := hv.2 ⟨_, hU2⟩
  have k := block_cell hx
  exact ⟨k 4, k 9⟩
 have qa : ∀ v1, UP g u w2 v1 → v1.cell? ⟨g, 4, none⟩ = some (.int .u16 u.a1) := fun v1 h => (q1 v1 h).1
 have qb : ∀ v1, UP g u w2 v1 → v1.cell? ⟨g, 9, none⟩ = some (.int .u16 u.a) := fun v1 h => (q1 v1 h).2
 clear q1
 refine tV (UP.pre g u) 0 rfl rfl ?_; apply Exists.intro; refine ⟨fun v1 hv1 => ?_, ?_⟩; (· (go_simp; rfl)); simp only [Act.put, sA, sB, sC]
 refine tV (UP.pre g u) 1 rfl rfl ?_; apply Exists.intro; refine ⟨fun v1 hv1 => ?_, ?_⟩; (· (go_simp; rfl)); simp only [Act.put, sA, sB, sC]
 refine tV (UP.pre g u) 3 rfl rfl ?_; apply Exists.intro; refine ⟨fun v1 hv1 => ?_, ?_⟩; (· (go_simp; rfl)); simp only [Act.put, sA, sB, sC]
 refine tV (UP.pre g u) 4 rfl rfl ?_; apply Exists.intro; refine ⟨fun v1 hv1 => ?_, ?_⟩; (· (go_simp; rfl)); simp only [Act.put, sA, sB, sC]
 refine tV (UP.pre g u) 5 rfl rfl ?_; apply Exists.intro; refine ⟨fun v1 hv1 => ?_, ?_⟩; (· (go_simp; rfl)); simp only [Act.put, sA, sB, sC]
 refine tV (UP.pre g u) 6 rfl rfl ?_; apply Exists.intro; refine ⟨fun v1 hv1 => ?_, ?_⟩; (· (go_simp; rfl)); simp only [Act.put, sA, sB, sC]
 refine tV (UP.pre g u) 7 rfl rfl ?_; apply Exists.intro; refine ⟨fun v1 hv1 => ?_, ?_⟩; (· (go_simp; rfl)); simp only [Act.put, sA, sB, sC]
 refine tV (UP.pre g u) 8 rfl rfl ?_; apply Exists.intro; refine ⟨fun v1 hv1 => ?_, ?_⟩; (· (go_simp; rfl)); simp only [Act.put, sA, sB, sC]
 refine tV (UP.pre g u) 9 rfl rfl ?_; apply Exists.intro; refine ⟨fun v1 hv1 => ?_, ?_⟩; (· (go_simp; rfl)); simp only [Act.put, sA, sB, sC]
 refine tV (UP.pre g u) 10 rfl rfl ?_; apply Exists.intro; refine ⟨fun v1 hv1 => ?_, ?_⟩; (· (go_simp; rfl)); simp only [Act.put, sA, sB, sC]
 refine tV (UP.pre g u) 11 rfl rfl ?_; apply Exists.intro; refine ⟨fun v1 hv1 => ?_, ?_⟩; (· (go_simp; rfl)); simp only [Act.put, sA, sB, sC]
 refine tV (UP.pre g u) 12 rfl rfl ?_; apply Exists.intro; refine ⟨fun v1 hv1 => ?_, ?_⟩; (· (go_simp; rfl)); simp only [Act.put, sA, sB, sC]
 clear qa qb
 refine anyT_one 2 rfl (by kernel_rfl) rfl ?_
 refine wp_enter 270 #[.pointer (some ⟨g, 0, none⟩), .int .i64 2] (by go_simp) ((HGT.out w2 S2'.out.ur).mono ?_)
 rintro e w3 ⟨rfl, q3, hq3⟩
 have l3 : Later w2 w3 := by rw [hq3]; exact below_draw (Below.refl _ _) q3
 clear hq3
 refine ⟨UP.of l3, ?_⟩
 simp only [Act.put, sA, sB, sC]
 refine anyT_one 13 rfl (by kernel_rfl) rfl ?_
 refine wp_enter 275 #[.int .u16 c2, .int .u16 u.a1, .int .u16 u.a] (by go_simp) ((patch_any c2 u.a1 u.a w3 hg2 ha1 ha).mono ?_)
 rintro e w4 ⟨rfl, rfl⟩
 refine ⟨UP.of (Below.refl _ _), ?_⟩
 simp only [Act.put, sA, sB, sC]
 have HP := hide (ptv_bd c2 u.a1 u.a)
 have S3 := hide (S2'.out.later l3)
 refine anyT_one 14 rfl (by kernel_rfl) rfl ?_
 refine wp_enter 243 #[.pointer (some ⟨g, 0, none⟩), .int .i64 2, .int .u16 (ptv c2 u.a1 u.a)] (by go_simp; rfl) ((uput_any base g u z1 2 (ptv c2 u.a1 u.a) w4 S3.out.ur (Nat.le_trans hb (Nat.le_trans b2.size l3.size)) hl1 HP.out).mono ?_)
 rw [← HR.out]
 rintro e w5 ⟨rfl, S5, b5⟩
 refine ⟨⟨b5, fun _ => ⟨S5.choose, S5.choose_spec.1⟩⟩, ?_⟩
 simp only [Act.put, sA, sB, sC]
 refine anyT_done (by kernel_rfl) ?_
 go_wp2_with fail
 go_end0
 exact ⟨rfl, S5, b2.trans ((But.of l3).trans b5)⟩
def quE (g : Nat) : Array MapEntry := #[⟨.int .u8 6, mth 255 g, 0⟩, ⟨.int .u8 17, mth 256 g, 1⟩, ⟨.int .u8 1, mth 257 g, 2⟩, ⟨.int .u8 47, mth 202 g, 3⟩]
set_option maxHeartbeats 1000000 in
theorem quotedm_any (g : Nat) (w : World) : Calls Tryz.prog 225 #[.pointer (some ⟨g, 0, none⟩)] w fun e w' => ∃ m, e = .returned (.map (some m)) ∧ Later w w' ∧ w'.heap[m]? = some (.map (quE g) 4) := by
 have hmm := @run_makeMap Tryz.prog
 have hb0 : Below w.heap.size w (w.alloc (.map #[] 0)) := (Below.refl _ _).alloc (Nat.le_refl _) _
 have hM0 := heap_alloc_new w (.map #[] 0)
 obtain ⟨w1, r1, m1, l1⟩ := run_insq (P := Tryz.prog) Tryz.underlying263 Tryz.underlying5 hM0 6 (mth 255 g) (by kernel_rfl)
 obtain ⟨w2, r2, m2, l2⟩ := run_insq (P := Tryz.prog) Tryz.underlying263 Tryz.underlying5 m1 17 (mth 256 g) (by kernel_rfl)
 obtain ⟨w3, r3, m3, l3⟩ := run_insq (P := Tryz.prog) Tryz.underlying263 Tryz.underlying5 m2 1 (mth 257 g) (by kernel_rfl)
 obtain ⟨w4, r4, m4, l4⟩ := run_insq (P := Tryz.prog) Tryz.underlying263 Tryz.underlying5 m3 47 (mth 202 g) (by kernel_rfl)
 have hb4 : Below w.heap.size w w4 := (((hb0.trans (l1 _ (Nat.le_refl _))).trans (l2 _ (Nat.le_refl _))).trans (l3 _ (Nat.le_refl _))).trans (l4 _ (Nat.le_refl _))
 clear m1 m2 m3 l1 l2 l3 l4 hM0 hb0
 have M4 := hide m4
 clear m4
 go_enter Tryz.func225, Tryz.ntmps225
 go_wp2_with fail
 go_ret
 exact ⟨_, rfl, hb4, M4.out⟩
def uqf (pr : Int) : FuncId := if pr = 6 then 255 else if pr = 17 then 256 else if pr = 1 then 257 else 202
theorem look_uqf {pr : Int} (h : pok pr) (g : Nat) {w : World} {m : Nat} (hm : w.heap[m]? = some (.map (quE g) 4)) : (Instr.lookup 263 (.map (some m)) (.int .u8 pr) false).run Tryz.prog w = .ok (mth (uqf pr) g) w := by
 rcases h with rfl | rfl | rfl | rfl
 ·exact run_findv Tryz.underlying263 Tryz.underlying5 hm 6 _ 0 (by kernel_rfl)
 ·exact run_findv Tryz.underlying263 Tryz.underlying5 hm 17 _ 1 (by kernel_rfl)
 ·exact run_findv Tryz.underlying263 Tryz.underlying5 hm 1 _ 2 (by kernel_rfl)
 ·exact run_findv Tryz.underlying263 Tryz.underlying5 hm 47 _ 3 (by kernel_rfl)
theorem cf_uqf {pr : Int} (h : pok pr) (args : Array Value) (w : World) : (callFunc (uqf pr) args).run Tryz.prog w = .ok (.enter (uqf pr) args) w := by
 rcases h with rfl | rfl | rfl | rfl <;> kernel_rfl
theorem uqf_any {pr : Int} (base : Nat) (g : Nat) (u : Un) (zs : List Int) (w : World) (hB : Mt.By zs) (h : UR w g u zs) (hb : base ≤ w.heap.size) (hl : zs.length ≤ 140737488355328) (hu : UOk u) (hw : UOw u) (hp : pok pr) (h8 : 8 ≤ zs.length) :
  Calls Tryz.prog (uqf pr) #[.pointer (some ⟨g, 0, none⟩)] w fun e w' => UQ base w g u (qsD pr u zs) e w' := by
 rcases hp with rfl | rfl | rfl | rfl
 ·exact uqsegment_any base g u zs w hB h hb hl h8 hu hw
 ·exact uqdatagram_any base g u zs w hB h hb hl h8 hu hw
 ·exact uqmessage_any base g u zs w hB h hb hl h8 hu hw
 ·exact uframe_any base g u zs w h hb hl h8 hu
def rnm (s d : Int) (zs : List Int) : List Int := putAt2 (putAt2 (putAt4 (putAt4 zs 12 s) 16 d) 10 0) 10 (Mt.cks (putAt2 (putAt4 (putAt4 zs 12 s) 16 d) 10 0))
set_option maxHeartbeats 2000000 in
theorem renamed_any (tp s d a b : Int) (sv : Value) (zs : List Int) (w : World) (hB : Mt.By zs) (hI : Rd w.heap.size w sv zs) (hl : zs.length ≤ 140737488355328) (hs : 0 ≤ s ∧ s ≤ 4294967295) (hd : 0 ≤ d ∧ d ≤ 4294967295) :
  Calls Tryz.prog 227 #[sv, .agg #[.int .u8 tp, .int .u32 s, .int .u32 d, .int .u16 a, .int .u16 b]] w fun e w' => ∃ a, e = .returned (.slice a zs.length zs.length) ∧ Ow w.heap.size w' (.slice a zs.length zs.length) (rnm s d zs) ∧ Below w.heap.size w w' := by
 obtain ⟨a0, c0, rfl, hl0, hm0⟩ := hI.slice
 have HR : Hid (rnm s d zs = putAt2 (putAt2 (putAt4 (putAt4 zs 12 s) 16 d) 10 0) 10 (Mt.cks (putAt2 (putAt4 (putAt4 zs 12 s) 16 d) 10 0))) := rfl
 have h1 := putAt4_length zs 12 s
 have h2 := putAt4_length (putAt4 zs 12 s) 16 d
 have h3 := putAt2_length (putAt4 (putAt4 zs 12 s) 16 d) 10 0
 have hB3 : Mt.By (putAt2 (putAt4 (putAt4 zs 12 s) 16 d) 10 0) := By_putAt2 (By_putAt4 (By_putAt4 hB 12 hs) 16 hd) 10 (by omega)
 generalize rnm s d zs = zr at *
 have H1 := hide (fun (v : World) sv (h : Rd v.heap.size v sv zs) => put32_any sv zs 12 s v hl h hs)
 have H2 := hide (fun (v : World) sv (h : Rd v.heap.size v sv (putAt4 zs 12 s)) => put32_any sv (putAt4 zs 12 s) 16 d v (by omega) h hd)
 have H3 := hide (fun (v : World) sv (h : Rd v.heap.size v sv (putAt4 (putAt4 zs 12 s) 16 d)) => put16_any sv (putAt4 (putAt4 zs 12 s) 16 d) 10 0 v (by omega) h (by omega))
 generalize putAt4 zs 12 s = z1 at *
 generalize putAt4 z1 16 d = z2 at *
 generalize putAt2 z2 10 0 = z3 at *
 rw [h1] at H2
 rw [h2, h1] at H3
 have h2' := h2.trans h1
 have h3' := h3.trans h2'
 have H5 := hide (fun (v : World) sv (h : Rd v.heap.size v sv z3) => put16_any sv z3 10 (Mt.cks z3) v (by omega) h (Mt.cks_bd z3))
 have H4 := hide (fun (v : World) sv (h : Rd v.heap.size v sv z3) => sum_any sv z3 hB3 (by omega) v h)
 rw [h3', ← HR.out] at H5
 clear h1 h2 h3 h2' h3' HR
 have lw := later_alloc9 w (.cells #[.int .u8 tp, .int .u32 s, .int .u32 d, .int .u16 a, .int .u16 b] 68)
 have rT := heap_alloc_new w (.cells #[.int .u8 tp, .int .u32 s, .int .u32 d, .int .u16 a, .int .u16 b] 68)
 have RT := hide rT
 have hI1 := (hI.below lw).mono lw.size
 go_enter Tryz.func227, Tryz.ntmps227
 go_wp2_with fail
 refine (H1.out _ _ hI1).mono ?_
 rintro e w2 ⟨a2, rfl, O2, b2⟩
 have L2 : Later w w2 := lw.trans b2
 have RT2 := hide ((b2.block w.heap.size (by simp)).trans RT.out)
 have R2 := O2.rd
 clear O2 b2 hI1 RT lw rT hI
 have C2 := block_cell RT2.out
 go_wp2_with fail
 refine (H2.out _ _ R2).mono ?_
 rintro e w3 ⟨a3, rfl, O3, b3⟩
 have L3 : Later w w3 := L2.trans b3
 have R3 := O3.rd
 clear O3 C2 R2 RT2
 go_wp2_with fail
 refine (H3.out _ _ R3).mono ?_
 rintro e w4 ⟨a4, rfl, O4, b4⟩
 have L4 : Later w w4 := L3.trans b4
 have R4 := O4.rd
 clear O4 R3
 go_wp2_with fail
 refine (H4.out _ _ R4).mono ?_
 rintro e w5 ⟨rfl, b5⟩
 have L5 : Later w w5 := L4.trans b5
 have R5 := (R4.below b5).mono b5.size
 generalize Mt.cks z3 = cs at *
 clear R4
 go_wp2_with fail
 refine (H5.out _ _ R5).mono ?_
 rintro e w6 ⟨a6, rfl, O6, b6⟩
 go_wp2_with fail
 go_ret
 exact ⟨_, rfl, O6.mono L5.size, L5.trans b6⟩
set_option maxHeartbeats 2000000 in
theorem grow_pos (n : Nat) (w : World) (h0 : 0 < n) (hn : n ≤ 140737488355328) :
  Calls Tryz.prog 258 #[.slice none 0 0, .int .i64 n] w fun e w' => ∃ v, e = .returned v ∧ w'.ownsRow w.heap.size 5 1 v 0 [] ∧ Below w.heap.size w w' := by
 obtain ⟨i0, hi, hz0, hz1, hz2⟩ := info_parts info_u8
 have hcap := grownCap_le_maxLen w n 0 5 (by unfold maxLen; omega)
 have hcap0 := grownCap_ge w n 0 5
 have hr := Lib.run_append_nil_zeros (P := Tryz.prog) w 31 3 31 5 i0 (.int .u8 0) .i64 .i64 Tryz.underlying31 Tryz.underlying3 hi hz0 n h0 (by omega) (by omega) (by rw [hz2]; omega)
 have hsz : (Builtin.zeroCells (Value.int .u8 0).cells n ++ Builtin.zeroCells (Value.int .u8 0).cells (grownCap w n 0 5 - n)).size = grownCap w n 0 5 * 1 := by
  simp [Builtin.zeroCells, Value.cells]
  omega
 have ho := World.ownsRow_made (base := w.heap.size) (e := 5) (size := 1) w.drew (Builtin.zeroCells (Value.int .u8 0).cells n ++ Builtin.zeroCells (Value.int .u8 0).cells (grownCap w n 0 5 - n)) (grownCap w n 0 5) (Nat.le_refl _) hcap hsz
 have hb : Below w.heap.size w (w.drew.alloc (.cells (Builtin.zeroCells (Value.int .u8 0).cells n ++ Builtin.zeroCells (Value.int .u8 0).cells (grownCap w n 0 5 - n)) 5)) := (Below.refl _ _).drew.alloc (Nat.le_refl _) _
 have HO := hide ho
 have HB := hide hb
 clear ho hb hsz
 generalize w.drew.alloc (.cells (Builtin.zeroCells (Value.int .u8 0).cells n ++ Builtin.zeroCells (Value.int .u8 0).cells (grownCap w n 0 5 - n)) 5) = w1 at *
 generalize grownCap w n 0 5 = cp at *
 have hcp : cp ≤ 9223372036854775807 := hcap
 clear hcap
 go_enter Tryz.func258, Tryz.ntmps258
 go_wp2_with (at_builtin; refine Lib.wpList_append_run _ rfl (.tmp 20) (.tmp 21) _ _ rfl (.slice none 0 0) (.int .i64 n) rfl rfl _ _ hr ?_; clear hr)
 go_ret
 exact ⟨_, rfl, HO.out, HB.out⟩
set_option maxHeartbeats 2000000 in
theorem grow_any (n : Nat) (w : World) (hn : n ≤ 140737488355328) :
  Calls Tryz.prog 258 #[.slice none 0 0, .int .i64 n] w fun e w' => ∃ v, e = .returned v ∧ w'.ownsRow w.heap.size 5 1 v 0 [] ∧ Below w.heap.size w w' := by
 by_cases h0 : 0 < n
 ·exact grow_pos n w h0 hn
 obtain rfl : n = 0 := by omega
 go_enter Tryz.func258, Tryz.ntmps258
 go_wp2_with fail
 go_ret
 exact ⟨_, rfl, World.ownsRow_nil _ _ _ _, Below.refl _ _⟩
set_option maxHeartbeats 2000000 in
theorem concat_any (pb cap : Nat) (svs : List Value) (zss : List (List Int)) (w : World) (hn : svs.length = zss.length) (hcap : svs.length ≤ cap) (hk : svs.length ≤ 1000) (hl : zss.flatten.length ≤ 140737488355328)
  (hc : ∀ j, j < svs.length → w.cell? ⟨pb, j, none⟩ = some (svs[j]?.getD undef)) (hR : ∀ j, j < svs.length → Rd w.heap.size w (svs[j]?.getD undef) (zss[j]?.getD [])) :
  Calls Tryz.prog 226 #[.slice (some ⟨pb, 0, none⟩) svs.length cap] w fun e w' => ∃ v, e = .returned v ∧ w'.ownsRow w.heap.size 5 1 v zss.flatten.length (zss.flatten.map (Value.int .u8)) ∧ Below w.heap.size w w' := by
 obtain ⟨i0, hi, hz0, hz1, hz2⟩ := info_parts info_u8
 have HN := hide hn
 clear hn
 have HFL := hide (fun k (hlt : k < svs.length) => show (zss.take (k + 1)).flatten = (zss.take k).flatten ++ (zss[k]?.getD []) ∧ (zss.take (k + 1)).flatten.length ≤ zss.flatten.length from by
  have hkz : k < zss.length := by have := HN.out; omega
  have e1 : zss.take (k + 1) = zss.take k ++ [zss[k]?.getD []] := by
   rw [List.take_succ_eq_append_getElem hkz, List.getElem?_eq_getElem hkz]
   rfl
  refine ⟨by rw [e1, List.flatten_append, List.flatten_cons, List.flatten_nil, List.append_nil], ?_⟩
  conv => rhs; rw [← List.take_append_drop (k + 1) zss, List.flatten_append]
  simp)
 go_enter Tryz.func226, Tryz.ntmps226
 go_wp2
 go_loopw [3, 11] (fun v i wr => ∃ k : Nat, k ≤ svs.length ∧ i = .int .i64 (k : Int) ∧ v = .int .i64 ((zss.take k).flatten.length : Nat) ∧ wr = w)
  (fun _ i _ => svs.length - (intOf i).toNat)
 case atStart => exact ⟨0, by omega, rfl, rfl, rfl⟩
 case round =>
  obtain ⟨k, hk1, rfl, rfl, rfl⟩ := hrel
  by_cases hlt : k < svs.length
  ·have hcx := hc k hlt
   have hRx := hR k hlt
   obtain ⟨hfl, hle⟩ := HFL.out k hlt
   have hlen : (zss.take k).flatten.length + (zss[k]?.getD []).length ≤ 140737488355328 := by rw [← List.length_append, ← hfl]; omega
   have HF : Hid ((zss.take (k + 1)).flatten.length = (zss.take k).flatten.length + (zss[k]?.getD []).length) := by show _ = _; rw [hfl, List.length_append]
   clear hfl hle hc hR
   generalize svs[k]?.getD undef = sv at *
   generalize zss[k]?.getD [] = zs at *
   generalize (zss.take k).flatten.length = sz at *
   obtain ⟨a, cp, rfl, hl1, hm1⟩ := hRx.slice
   have hlt' : (k : Int) < svs.length := by omega
   go_wp2_with fail
   go_roundw
   case rel => exact ⟨k + 1, by omega, by go_num, by rw [HF.out]; go_num, trivial⟩
   case measure => simp [intOf]; omega
  ·obtain rfl : k = svs.length := by omega
   obtain ⟨w0, hw0⟩ : ∃ x, x = wr := ⟨_, rfl⟩
   subst hw0
   rw [HN.out, List.take_length]
   rw [HN.out] at hc hR
   have hgr := hide (grow_any zss.flatten.length w0 hl)
   have HL := hide hl
   clear hl
   generalize hnn : zss.flatten.length = nn at hgr HL ⊢
   have HQ := hide hnn
   clear hnn
   go_upto_region 9 with fail
   go_wp2_with fail
   refine hgr.out.mono ?_
   rintro e w1 ⟨nv, rfl, hown1, hb1⟩
   go_wp2_with fail
   go_loopw [6, 27] (fun v i wq => ∃ k : Nat, k ≤ zss.length ∧ i = .int .i64 (k : Int) ∧ wq.ownsRow w0.heap.size 5 1 v (zss.take k).flatten.length ((zss.take k).flatten.map (Value.int .u8)) ∧ Below w0.heap.size w0 wq)
    (fun _ i _ => zss.length - (intOf i).toNat)
   case atStart => exact ⟨0, by omega, rfl, hown1, hb1⟩
   case round =>
    obtain ⟨k, hk1, rfl, hown, hnx⟩ := hrel
    by_cases hlt : k < zss.length
    ·have hck := hc k hlt
     have hpb : pb < w0.heap.size := World.block_lt_of_cell? w0 ⟨pb, k, none⟩ hck
     have hcx : wr.cell? ⟨pb, k, none⟩ = some (svs[k]?.getD undef) := (hnx.cell (p := ⟨pb, k, none⟩) hpb).trans hck
     have hRx : Rd w0.heap.size wr (svs[k]?.getD undef) (zss[k]?.getD []) := (hR k hlt).below hnx
     obtain ⟨hfl, hle⟩ := HFL.out k (by rw [HN.out]; exact hlt)
     have HF := hide hfl
     have hlen : (zss.take k).flatten.length + (zss[k]?.getD []).length ≤ 140737488355328 := by rw [← List.length_append, ← hfl]; exact Nat.le_trans hle (by rw [HQ.out]; exact HL.out)
     clear hfl hle hc hR hck
     generalize svs[k]?.getD undef = sv at *
     generalize zss[k]?.getD [] = zs at *
     obtain ⟨a, cp, rfl, hl1, hm1⟩ := hRx.slice
     have hlt' : (k : Int) < zss.length := by omega
     have hk' : zss.length ≤ 1000 := by rw [← HN.out]; exact hk
     have HL1 := hide (show k + 1 ≤ zss.length from hlt)
     go_wp2_with (at_builtin; refine wpList_app _ rfl (.tmp 31) (.tmp 32) 31 rfl w0.heap.size 5 i0 Tryz.underlying31 hi hz0 hz1 hz2 _ _ rfl hown w0.heap.size _ zs rfl hRx hlen hnx.size ?_; intro v1 w1 hown1 hg1; have hb1 := below_app hnx hown hg1 (Nat.le_refl _) hnx.size; clear hg1 hown)
     go_roundw
     case rel => exact ⟨k + 1, HL1.out, by go_num, by rw [HF.out]; exact hown1, hb1⟩
     case measure => have := HL1.out; simp [intOf]; omega
    ·obtain rfl : k = zss.length := by omega
     rw [List.take_length] at hown
     go_wp2_with fail
     go_ret
     exact ⟨_, rfl, hown, hnx⟩
theorem rnm_length (s d : Int) (zs : List Int) : (rnm s d zs).length = zs.length := by unfold rnm; rw [putAt2_length, putAt2_length, putAt4_length, putAt4_length]
theorem rnm_by {s d : Int} {zs : List Int} (hB : Mt.By zs) (hs : 0 ≤ s ∧ s ≤ 4294967295) (hd : 0 ≤ d ∧ d ≤ 4294967295) : Mt.By (rnm s d zs) :=
 By_putAt2 (By_putAt2 (By_putAt4 (By_putAt4 hB 12 hs) 16 hd) 10 (by omega)) 10 (Mt.cks_bd _)
theorem qsD_length (pr : Int) (u : Un) (zs : List Int) : (qsD pr u zs).length = zs.length := by
 unfold qsD
 split
 ·unfold qsT; rw [putAt2_length, prt_length]
 split
 ·unfold qsU; split
  ·rw [prt_length]
  ·rw [putAt2_length, prt_length]
 split
 ·unfold qsI; rw [putAt2_length, Mt.put2_length]
 ·unfold rwG; rw [Mt.put2_length]
theorem qsD_by {pr : Int} {u : Un} {zs : List Int} (hB : Mt.By zs) (hu : UOk u) : Mt.By (qsD pr u zs) := by
 have hp := prt_by hB hu.2.2.1 hu.2.2.2
 unfold qsD
 split
 ·exact By_putAt2 hp 16 (ptch_bd _ _)
 split
 ·unfold qsU; split
  ·exact hp
  ·have h9 := nbr_bd (ptch_bd u (getAt2 (prt u.a u.b zs) 6))
   exact By_putAt2 hp 6 ⟨by omega, h9.2⟩
 split
 ·exact By_putAt2 (hB.put2 4 hu.2.2.1) 2 (ptv_bd _ _ _)
 ·exact hB.put2 6 hu.2.2.2
def rqt (u : Un) (mz : List Int) : List Int := rnm u.s u.d (mz.take (hl4 mz).toNat) ++ (qsD u.pr u (qdt mz) ++ mz.drop (ral true mz).toNat)
theorem rde_facts {mz : List Int} (hB : Mt.By mz) (h : rde true mz = 0) : 20 ≤ (hl4 mz).toNat ∧ (hl4 mz).toNat + 8 ≤ (ral true mz).toNat ∧ (ral true mz).toNat ≤ mz.length := by
 unfold rde at h
 have hh := hl4_bd hB
 by_cases h1 : msr mz ≠ 0
 ·rw [if_pos h1] at h; exact absurd h h1
 rw [if_neg h1] at h
 by_cases h2 : (mz.length : Int) < ral true mz
 ·rw [if_pos h2] at h; exact absurd h (by decide)
 rw [if_neg h2] at h
 by_cases h3 : chk mz ≠ 0
 ·rw [if_pos h3] at h; exact absurd h h3
 rw [if_neg h3] at h
 by_cases h4 : ral true mz - hl4 mz < 8
 ·rw [if_pos ⟨rfl, h4⟩] at h; exact absurd h (by decide)
 have h5 : 20 ≤ hl4 mz := by
  simp only [msr, ne_eq, Decidable.not_not] at h1
  split at h1
  ·omega
  split at h1
  ·omega
  split at h1
  ·omega
  omega
 omega
theorem rqt_length {u : Un} {mz : List Int} (hB : Mt.By mz) (h : rde true mz = 0) : (rqt u mz).length = mz.length := by
 have := rde_facts hB h
 unfold rqt qdt
 rw [List.length_append, List.length_append, rnm_length, qsD_length, List.length_take, List.length_drop, List.length_take, List.length_drop]
 omega
set_option maxHeartbeats 4000000 in
theorem requoted_any (pr s1 d1 a1 b1 s d a b : Int) (sv : Value) (mz : List Int) (w : World) (hB : Mt.By mz) (hI : Rd w.heap.size w sv mz) (hl : mz.length ≤ 140737488355328) (hrd : rde true mz = 0) (hok : pok pr)
  (hs1 : 0 ≤ s1 ∧ s1 ≤ 4294967295) (hd1 : 0 ≤ d1 ∧ d1 ≤ 4294967295) (ha1 : 0 ≤ a1 ∧ a1 ≤ 65535) (hb1 : 0 ≤ b1 ∧ b1 ≤ 65535) (hs : 0 ≤ s ∧ s ≤ 4294967295) (hd : 0 ≤ d ∧ d ≤ 4294967295) (ha : 0 ≤ a ∧ a ≤ 65535) (hb : 0 ≤ b ∧ b ≤ 65535) :
  Calls Tryz.prog 189 #[sv, .agg #[.int .u8 pr, .int .u32 s1, .int .u32 d1, .int .u16 a1, .int .u16 b1], .agg #[.int .u8 pr, .int .u32 s, .int .u32 d, .int .u16 a, .int .u16 b]] w fun e w' => ∃ x c, e = .returned (.slice x mz.length c) ∧ Ow w.heap.size w' (.slice x mz.length c) (rqt ⟨pr, s1, d1, a1, b1, pr, s, d, a, b⟩ mz) ∧ Below w.heap.size w w' := by
 obtain ⟨av, cv, rfl, hlv, hmv⟩ := hI.slice
 have hF := rde_facts hB hrd
 have HQL := hide (rqt_length (u := ⟨pr, s1, d1, a1, b1, pr, s, d, a, b⟩) hB hrd)
 have HRQ : Hid (rqt ⟨pr, s1, d1, a1, b1, pr, s, d, a, b⟩ mz = rnm s d (mz.take (hl4 mz).toNat) ++ (qsD pr ⟨pr, s1, d1, a1, b1, pr, s, d, a, b⟩ (qdt mz) ++ mz.drop (ral true mz).toNat)) := rfl
 have lw : Later w ((w.alloc (.cells #[.int .u8 pr, .int .u32 s1, .int .u32 d1, .int .u16 a1, .int .u16 b1] 68)).alloc (.cells #[.int .u8 pr, .int .u32 s, .int .u32 d, .int .u16 a, .int .u16 b] 68)) := (later_alloc9 w _).trans (later_alloc9 _ _)
 have rW : ((w.alloc (.cells #[.int .u8 pr, .int .u32 s1, .int .u32 d1, .int .u16 a1, .int .u16 b1] 68)).alloc (.cells #[.int .u8 pr, .int .u32 s, .int .u32 d, .int .u16 a, .int .u16 b] 68)).heap[w.heap.size]? = some (.cells #[.int .u8 pr, .int .u32 s1, .int .u32 d1, .int .u16 a1, .int .u16 b1] 68 (0, 0)) := by rw [(later_alloc9 _ _).block w.heap.size (by simp)]; exact heap_alloc_new _ _
 have rT := heap_alloc_new (w.alloc (.cells #[.int .u8 pr, .int .u32 s1, .int .u32 d1, .int .u16 a1, .int .u16 b1] 68)) (.cells #[.int .u8 pr, .int .u32 s, .int .u32 d, .int .u16 a, .int .u16 b] 68)
 rw [World.size_alloc] at rT
 have RW := hide rW
 have RT := hide rT
 clear rW rT
 go_enter Tryz.func189, Tryz.ntmps189
 go_wp2_with fail
 generalize (w.alloc (.cells #[.int .u8 pr, .int .u32 s1, .int .u32 d1, .int .u16 a1, .int .u16 b1] 68)).alloc (.cells #[.int .u8 pr, .int .u32 s, .int .u32 d, .int .u16 a, .int .u16 b] 68) = w1 at *
 have hI1 := (hI.below lw).mono lw.size
 refine (quote_any _ mz w1 hB (by omega) hI1).mono ?_
 rintro e w2 ⟨hb2, ⟨hf2, _⟩ | ⟨_, qo, qs0, rfl, hO2, hD2⟩⟩
 ·exact absurd hrd hf2
 obtain ⟨b7, c7, rfl, _, _⟩ := hO2.slice
 obtain ⟨b8, c8, rfl, hc8, hc9⟩ := hD2.slice
 unfold pkt
 generalize mz[1]?.getD 0 = q1 at *
 generalize wat mz 4 = q2 at *
 generalize decide (16384 ≤ wat mz 6 % 32768) = q3 at *
 generalize mz[8]?.getD 0 = q4 at *
 generalize mz[9]?.getD 0 = q5 at *
 generalize wat4 mz 12 = q6 at *
 generalize wat4 mz 16 = q7 at *
 have hl7 : ((mz.take (hl4 mz).toNat).drop 20).length = (hl4 mz).toNat - 20 := by rw [List.length_drop, List.length_take]; omega
 rw [hl7]
 have hl8 : (qdt mz).length = (ral true mz).toNat - (hl4 mz).toNat := by unfold qdt; rw [List.length_drop, List.length_take]; omega
 have hBq := By_qdt hB
 have HL8 := hide hl8
 clear hl8
 rw [show (mz.take (ral true mz).toNat).drop (hl4 mz).toNat = qdt mz from rfl] at hD2 hc8 ⊢
 generalize qdt mz = dq at *
 clear hO2 hl7 hrd
 generalize (hl4 mz).toNat = hh at *
 generalize (ral true mz).toNat = he at *
 obtain ⟨l7, hl7⟩ : ∃ l7, hh - 20 = l7 := ⟨_, rfl⟩
 rw [hl7]
 have HL7 := hide hl7
 clear hl7
 have la2 := later_alloc9 w2 (.cells #[.int .u8 q1, .int .u16 q2, .bool q3, .int .u8 q4, .int .u8 q5, .int .u32 q6, .int .u32 q7, .slice b7 l7 c7, .slice b8 dq.length c8] 56)
 have l2 : Later w1 w2 := hb2
 have L2 : Later w w2 := lw.trans l2
 have RW3 := hide (((l2.trans la2).block w.heap.size (bl9 RW.out)).trans RW.out)
 have RT3 := hide (((l2.trans la2).block (w.heap.size + 1) (bl9 RT.out)).trans RT.out)
 have RP3 := hide (heap_alloc_new w2 (.cells #[.int .u8 q1, .int .u16 q2, .bool q3, .int .u8 q4, .int .u8 q5, .int .u32 q6, .int .u32 q7, .slice b7 l7 c7, .slice b8 dq.length c8] 56))
 have D3 := hide (hD2.later la2)
 have L3 := L2.trans la2
 clear hD2 hI1 hb2
 go_upto_region 2 with fail
 generalize w2.alloc (.cells #[.int .u8 q1, .int .u16 q2, .bool q3, .int .u8 q4, .int .u8 q5, .int .u32 q6, .int .u32 q7, .slice b7 l7 c7, .slice b8 dq.length c8] 56) = w3 at *
 generalize hgp : w2.heap.size = gp at *
 have hgp1 : w.heap.size + 1 < gp := by rw [← hgp]; exact Nat.lt_of_lt_of_le (bl9 RT.out) l2.size
 clear hgp RW RT la2 l2 L2
 have CP := block_cell RP3.out
 have CW := block_cell RW3.out
 have CT := block_cell RT3.out
 have hl7' : (20 : Int) + (l7 : Int) = (hh : Int) := by have := HL7.out; omega
 have hl8' : (hh : Int) + (dq.length : Int) = (he : Int) := by have := HL8.out; omega
 have lB := later_alloc9 w3 (.cells #[.slice b8 dq.length c8, .int .u8 pr, .int .u32 s1, .int .u32 d1, .int .u16 a1, .int .u16 b1, .int .u8 pr, .int .u32 s, .int .u32 d, .int .u16 a, .int .u16 b] 262)
 have U4 : Hid (UB (w3.alloc (.cells #[.slice b8 dq.length c8, .int .u8 pr, .int .u32 s1, .int .u32 d1, .int .u16 a1, .int .u16 b1, .int .u8 pr, .int .u32 s, .int .u32 d, .int .u16 a, .int .u16 b] 262)) w3.heap.size ⟨pr, s1, d1, a1, b1, pr, s, d, a, b⟩ (.slice b8 dq.length c8)) := heap_alloc_new w3 _
 have hs3 : gp < w3.heap.size := (bl9 RP3.out)
 go_upto_region 5 with fail
 generalize w3.alloc (.cells #[.slice b8 dq.length c8, .int .u8 pr, .int .u32 s1, .int .u32 d1, .int .u16 a1, .int .u16 b1, .int .u8 pr, .int .u32 s, .int .u32 d, .int .u16 a, .int .u16 b] 262) = w4 at *
 clear CP CW CT
 generalize hg : w3.heap.size = g at *
 have T4 := hide ((lB.block (w.heap.size + 1) (by omega)).trans RT3.out)
 have hw4 : Later w w4 := L3.trans lB
 have hg4 : g < w4.heap.size := (bl9 U4.out)
 have hsg : w.heap.size + 1 < g := by omega
 have D4 := hide (D3.out.later lB)
 clear hg lB RT3 RW3 RP3 D3 L3 hs3 hgp1
 refine anyT_begin (R := But (fun q => q = g)) 5 rfl (by kernel_rfl) ?_
 have hdr : Later w4 w4.drew := Later.drew w4
 have T5 := hide ((hdr.block (w.heap.size + 1) (by omega)).trans T4.out)
 have hUR : UR w4.drew g ⟨pr, s1, d1, a1, b1, pr, s, d, a, b⟩ dq := (show UR w4 g ⟨pr, s1, d1, a1, b1, pr, s, d, a, b⟩ dq from ⟨_, U4.out, D4.out.rd⟩).later hdr
 have hw5 : Later w w4.drew := hw4.trans hdr
 have hg5 : g < w4.drew.heap.size := Nat.lt_of_lt_of_le hg4 hdr.size
 generalize w4.drew = w5 at *
 clear T4 U4 D4 hw4 hg4 hdr
 have qT : ∀ v1, But (fun q => q = g) w5 v1 → ∀ i, v1.cell? ⟨w.heap.size + 1, i, none⟩ = #[Value.int .u8 pr, .int .u32 s, .int .u32 d, .int .u16 a, .int .u16 b][i]? := fun v1 h => block_cell ((h.block (w.heap.size + 1) (by omega) (by omega)).trans T5.out)
 refine tV (But.pre _) 1 rfl rfl ?_; apply Exists.intro; refine ⟨fun v1 hv1 => ?_, ?_⟩; (· (go_simp; rfl)); simp only [Act.put, sA, sB, sC]
 refine tV (But.pre _) 2 rfl rfl ?_; apply Exists.intro; refine ⟨fun v1 hv1 => ?_, ?_⟩; (· (go_simp; rfl)); simp only [Act.put, sA, sB, sC]
 clear qT
 refine anyT_one 0 rfl (by kernel_rfl) rfl ?_
 refine wp_enter 225 #[.pointer (some ⟨g, 0, none⟩)] (by go_simp) ((quotedm_any g w5).mono ?_)
 rintro e w6 ⟨m, rfl, l6, hm6⟩
 refine ⟨But.of l6, ?_⟩
 simp only [Act.put, sA, sB, sC]
 have hmg : m ≠ g := by
  intro e
  subst e
  obtain ⟨bv, hx, _⟩ := hUR.later l6
  rw [UB, hm6] at hx
  cases hx
 have qL : ∀ v1, But (fun q => q = g) w6 v1 → (Instr.lookup 263 (.map (some m)) (.int .u8 pr) false).run Tryz.prog v1 = .ok (mth (uqf pr) g) v1 := fun v1 h => look_uqf hok g ((h.block m (bl9 hm6) hmg).trans hm6)
 refine tV (But.pre _) 3 rfl rfl ?_; apply Exists.intro; refine ⟨fun v1 hv1 => ?_, ?_⟩; (· (go_simp; rfl)); simp only [Act.put, sA, sB, sC]
 clear qL
 refine anyT_one 4 rfl (by kernel_rfl) rfl ?_
 have hcf := cf_uqf hok #[.pointer (some ⟨g, 0, none⟩)] w6
 have hdl : dq.length ≤ 140737488355328 := by have := HL8.out; omega
 have hd8 : 8 ≤ dq.length := by have := HL8.out; omega
 refine wp_enter (uqf pr) #[.pointer (some ⟨g, 0, none⟩)] (by go_simp) ((uqf_any (pr := pr) w.heap.size g ⟨pr, s1, d1, a1, b1, pr, s, d, a, b⟩ dq w6 hBq (hUR.later l6) (hw5.trans l6).size hdl ⟨hs, hd, ha, hb⟩ ⟨hs1, hd1, ha1, hb1⟩ hok hd8).mono ?_)
 rintro e w7 ⟨rfl, S7, b7'⟩
 refine ⟨b7', ?_⟩
 simp only [Act.put, sA, sB, sC]
 refine anyT_done (by kernel_rfl) ?_
 obtain ⟨bv7, hU7, hO7⟩ := S7
 obtain ⟨a7, c7', rfl, hc7, hm7⟩ := hO7.slice
 rw [qsD_length] at hU7 hO7 hc7
 have b57 : But (fun q => q = g) w5 w7 := (But.of l6).trans b7'
 have T7 := hide ((b57.block (w.heap.size + 1) (by omega) (by omega)).trans T5.out)
 have hw5' : Below w.heap.size w w5 := hw5
 have hw7 : Below w.heap.size w w7 := hw5'.trans (b57.below hw5'.size (fun k hk e => by omega))
 have hg7 : g < w7.heap.size := Nat.lt_of_lt_of_le hg5 b57.size
 have U7 := hide hU7
 have O7 := hide hO7
 clear hU7 hO7 b7' l6 hm6 hmg b57 T5 hUR hw5 hg5 hcf
 clear hw5'
 go_upto_region 6 with fail
 refine anyT_begin (R := Later) 13 rfl (by kernel_rfl) ?_
 have hdr : Later w7 w7.drew := Later.drew w7
 have T8 := hide ((hdr.block (w.heap.size + 1) (by omega)).trans T7.out)
 have U8 := hide ((hdr.block g hg7).trans U7.out)
 have O8 := hide (O7.out.later hdr)
 have hw8 : Later w w7.drew := hw7.trans (hdr.mono hw7.size)
 generalize w7.drew = w8 at *
 clear T7 U7 O7 hw7 hdr
 have hg8 : g < w8.heap.size := (bl9 U8.out)
 have hI8 := hI.later hw8
 have qT : ∀ v1, Later w8 v1 → ∀ i, v1.cell? ⟨w.heap.size + 1, i, none⟩ = #[Value.int .u8 pr, .int .u32 s, .int .u32 d, .int .u16 a, .int .u16 b][i]? := fun v1 h => block_cell ((h.block (w.heap.size + 1) (by omega)).trans T8.out)
 have qU : ∀ v1, Later w8 v1 → ∀ i, v1.cell? ⟨g, i, none⟩ = #[Value.slice a7 dq.length c7', .int .u8 pr, .int .u32 s1, .int .u32 d1, .int .u16 a1, .int .u16 b1, .int .u8 pr, .int .u32 s, .int .u32 d, .int .u16 a, .int .u16 b][i]? := fun v1 h => block_cell ((h.block g hg8).trans U8.out)
 have hhc : hh ≤ cv := by omega
 have hhe : he ≤ mz.length := hF.2.2
 refine tV Later.pre 0 rfl rfl ?_; apply Exists.intro; refine ⟨fun v1 hv1 => ?_, ?_⟩; (· (go_simp; rfl)); simp only [Act.put, sA, sB, sC]
 refine tV Later.pre 1 rfl rfl ?_; apply Exists.intro; refine ⟨fun v1 hv1 => ?_, ?_⟩; (· (go_simp; rfl)); simp only [Act.put, sA, sB, sC]
 refine tV Later.pre 2 rfl rfl ?_; apply Exists.intro; refine ⟨fun v1 hv1 => ?_, ?_⟩; (· (go_simp; rfl)); simp only [Act.put, sA, sB, sC]
 refine tV Later.pre 3 rfl rfl ?_; apply Exists.intro; refine ⟨fun v1 hv1 => ?_, ?_⟩; (· (go_simp; rfl)); simp only [Act.put, sA, sB, sC]
 refine tV Later.pre 5 rfl rfl ?_; apply Exists.intro; refine ⟨fun v1 hv1 => ?_, ?_⟩; (· (go_simp; rfl)); simp only [Act.put, sA, sB, sC]
 refine tV Later.pre 6 rfl rfl ?_; apply Exists.intro; refine ⟨fun v1 hv1 => ?_, ?_⟩; (· (go_simp; rfl)); simp only [Act.put, sA, sB, sC]
 refine tV Later.pre 7 rfl rfl ?_; apply Exists.intro; refine ⟨fun v1 hv1 => ?_, ?_⟩; (· (go_simp; rfl)); simp only [Act.put, sA, sB, sC]
 refine tV Later.pre 8 rfl rfl ?_; apply Exists.intro; refine ⟨fun v1 hv1 => ?_, ?_⟩; (· (go_simp; rfl)); simp only [Act.put, sA, sB, sC]
 refine tV Later.pre 9 rfl rfl ?_; apply Exists.intro; refine ⟨fun v1 hv1 => ?_, ?_⟩; (· (go_simp; rfl)); simp only [Act.put, sA, sB, sC]
 clear qT qU
 have R45 := hide (show Rd w8.heap.size w8 (.slice (if cv = he then av else Option.map (fun x => x.add he) av) (mz.length - he) (cv - he)) (mz.drop he) from by simpa [sliced] using Rd.drop he hhe hI8)
 have R42 := hide O8.out.rd
 generalize (if cv = he then av else Option.map (fun x => x.add he) av) = a45 at *
 generalize mz.length - he = n45 at *
 generalize cv - he = c45 at *
 refine anyT_one 4 rfl (by kernel_rfl) rfl ?_
 have hth : (mz.take hh).length = hh := by rw [List.length_take]; omega
 have H9 := renamed_any pr s d a b (.slice av hh cv) (mz.take hh) w8 (hB.take hh) (hI8.take hh (by omega)) (by omega) hs hd
 rw [hth] at H9
 refine wp_enter 227 #[.slice av hh cv, .agg #[.int .u8 pr, .int .u32 s, .int .u32 d, .int .u16 a, .int .u16 b]] (by go_simp) (H9.mono ?_)
 rintro e w9 ⟨a9, rfl, O9, b9⟩
 have l9 : Later w8 w9 := b9
 refine ⟨l9, ?_⟩
 simp only [Act.put, sA, sB, sC]
 clear H9
 refine anyT_one 10 rfl (by kernel_rfl) rfl ?_
 unfold Oper.wp
 go_simp
 have l10 := later_alloc9 w9 (.cells #[.slice a9 hh hh, .slice a7 dq.length c7', .slice a45 n45 c45] 31)
 have B10 := heap_alloc_new w9 (.cells #[.slice a9 hh hh, .slice a7 dq.length c7', .slice a45 n45 c45] 31)
 refine ⟨l10, ?_⟩
 generalize w9.alloc (.cells #[.slice a9 hh hh, .slice a7 dq.length c7', .slice a45 n45 c45] 31) = w10 at *
 have C10 := block_cell B10
 have hfl : ([rnm s d (mz.take hh), qsD pr ⟨pr, s1, d1, a1, b1, pr, s, d, a, b⟩ dq, mz.drop he] : List (List Int)).flatten = rqt ⟨pr, s1, d1, a1, b1, pr, s, d, a, b⟩ mz := by rw [HRQ.out]; simp
 have H11 := concat_any w9.heap.size 3 [.slice a9 hh hh, .slice a7 dq.length c7', .slice a45 n45 c45] [rnm s d (mz.take hh), qsD pr ⟨pr, s1, d1, a1, b1, pr, s, d, a, b⟩ dq, mz.drop he] w10 rfl (by simp) (by simp) (by rw [hfl, HQL.out]; exact hl)
  (fun j hj => by
   have hj3 : j < 3 := hj
   have : j = 0 ∨ j = 1 ∨ j = 2 := by omega
   rcases this with rfl | rfl | rfl <;> exact C10 _)
  (fun j hj => by
   have hj3 : j < 3 := hj
   have : j = 0 ∨ j = 1 ∨ j = 2 := by omega
   rcases this with rfl | rfl | rfl
   ·exact O9.rd.later l10
   ·exact (R42.out.later l9).later l10
   ·exact (R45.out.later l9).later l10)
 rw [hfl, HQL.out] at H11
 have HL11 := hide H11
 clear H11 C10 B10 hfl
 generalize w9.heap.size = gb at *
 refine anyT_one 11 rfl (by kernel_rfl) rfl ?_
 refine wp_enter 226 #[.slice (some ⟨gb, 0, none⟩) 3 3] (by go_simp) (HL11.out.mono ?_)
 rintro e w11 ⟨v11, rfl, hown, b11⟩
 have l11 : Later w10 w11 := b11
 have O11 := hide (Ow.of_row hown)
 clear hown
 refine ⟨l11, ?_⟩
 simp only [Act.put, sA, sB, sC]
 refine tV Later.pre 12 rfl rfl ?_; apply Exists.intro; refine ⟨fun v1 hv1 => ?_, ?_⟩; (· (go_simp; rfl)); simp only [Act.put, sA, sB, sC]
 refine anyT_done (by kernel_rfl) ?_
 obtain ⟨x, c, rfl, _, _⟩ := O11.out.slice
 go_wp2_with fail
 go_ret
 have L8 := hw8.trans (l9.trans l10)
 rw [HQL.out] at O11 ⊢
 exact ⟨x, c, rfl, O11.out.mono L8.size, L8.trans l11⟩
def rqe (proto tp : Int) (lo : Nat) (zd : List Int) : Int := if que proto zd ≠ 0 then que proto zd else if qpr (zd.drop 8) ≠ tp then 12 else flt lo (8 + (zd.drop 8).length)
theorem qie_pok {pr : Int} {d : List Int} (h : qie pr d = 0) : pok pr := by
 unfold qie at h
 unfold pok
 split at h
 ·omega
 split at h
 ·omega
 split at h
 ·omega
 split at h
 ·omega
 ·omega
theorem que_zero {proto : Int} {zd : List Int} (h : que proto zd = 0) : pie proto zd = 0 ∧ erb (zd[0]?.getD 0) = true ∧ rde true (zd.drop 8) = 0 ∧ qie (qpr (zd.drop 8)) (qdt (zd.drop 8)) = 0 := by
 unfold que at h
 by_cases h1 : pie proto zd ≠ 0
 ·rw [if_pos h1] at h; exact absurd h h1
 rw [if_neg h1] at h
 by_cases h2 : erb (zd[0]?.getD 0) = false
 ·rw [if_pos h2] at h; exact absurd h (by decide)
 rw [if_neg h2] at h
 by_cases h3 : rde true (zd.drop 8) ≠ 0
 ·rw [if_pos h3] at h; exact absurd h h3
 rw [if_neg h3] at h
 refine ⟨by omega, by simpa using h2, by omega, h⟩
def qun (mz : List Int) (s d a b : Int) : Un := ⟨qpr mz, wat4 mz 12, wat4 mz 16, qia (qpr mz) (qdt mz), qib (qpr mz) (qdt mz), qpr mz, s, d, a, b⟩
theorem wat4_bd9 {zs : List Int} (hB : Mt.By zs) (k : Nat) : 0 ≤ wat4 zs k ∧ wat4 zs k ≤ 4294967295 := by
 have b1 := wat_bd hB k
 have b2 := wat_bd hB (k + 2)
 unfold wat4
 omega
theorem qia_bd {pr : Int} {d : List Int} (hB : Mt.By d) : 0 ≤ qia pr d ∧ qia pr d ≤ 65535 := by
 have h0 := wat_bd hB 0
 have h4 := wat_bd hB 4
 unfold qia
 split
 ·exact h0
 split
 ·exact h0
 split
 ·exact h4
 ·omega
theorem qib_bd {pr : Int} {d : List Int} (hB : Mt.By d) : 0 ≤ qib pr d ∧ qib pr d ≤ 65535 := by
 have h2 := wat_bd hB 2
 have h4 := wat_bd hB 4
 have h6 := wat_bd hB 6
 unfold qib
 split
 ·exact h2
 split
 ·exact h2
 split
 ·exact h4
 ·exact h6
set_option maxHeartbeats 16000000 in
theorem requote_any (tos id ttl pr src dst : Int) (keep : Bool) (so sd : Value) (zo zd : List Int) (ns nd tp s d a b : Int) (w : World) (hT : Tb w) (hBo : Mt.By zo) (hBd : Mt.By zd) (hIo : Rd w.heap.size w so zo) (hId : Rd w.heap.size w sd zd) (hlo : zo.length ≤ 140737488355328) (hl : zd.length ≤ 140737488351232)
  (ht : 0 ≤ tos ∧ tos ≤ 255) (hid : 0 ≤ id ∧ id ≤ 65535) (htt : 0 ≤ ttl ∧ ttl ≤ 255) (hns : 0 ≤ ns ∧ ns ≤ 4294967295) (hnd : 0 ≤ nd ∧ nd ≤ 4294967295) (hs : 0 ≤ s ∧ s ≤ 4294967295) (hd : 0 ≤ d ∧ d ≤ 4294967295) (ha : 0 ≤ a ∧ a ≤ 65535) (hb : 0 ≤ b ∧ b ≤ 65535) :
  Calls Tryz.prog 152 #[.agg #[.int .u8 tos, .int .u16 id, .bool keep, .int .u8 ttl, .int .u8 pr, .int .u32 src, .int .u32 dst, so, sd], .int .u32 ns, .int .u32 nd, .agg #[.int .u8 tp, .int .u32 s, .int .u32 d, .int .u16 a, .int .u16 b]] w fun e w' => Below w.heap.size w w' ∧ ((rqe pr tp zo.length zd ≠ 0 ∧ e = .returned (.tuple #[.agg zpk.toArray, .int .i64 (rqe pr tp zo.length zd)])) ∨
   (rqe pr tp zo.length zd = 0 ∧ ∃ ao co ad cd, e = .returned (.tuple #[.agg #[.int .u8 tos, .int .u16 id, .bool keep, .int .u8 ttl, .int .u8 1, .int .u32 ns, .int .u32 nd, .slice ao zo.length co, .slice ad (8 + (zd.drop 8).length) cd], .int .i64 0]) ∧ Ow w.heap.size w' (.slice ao zo.length co) zo ∧ Ow w.heap.size w' (.slice ad (8 + (zd.drop 8).length) cd) (icm (zd[0]?.getD 0) (zd[1]?.getD 0) (wat4 zd 4) (rqt (qun (zd.drop 8) s d a b) (zd.drop 8))))) := by
 obtain ⟨ao, co, rfl, hlo1, hmo1⟩ := hIo.slice
 obtain ⟨ad, cd, rfl, hl1, hm1⟩ := hId.slice
 have hb0 : Below w.heap.size w (((w.alloc (.cells #[.int .u8 tos, .int .u16 id, .bool keep, .int .u8 ttl, .int .u8 pr, .int .u32 src, .int .u32 dst, .slice ao zo.length co, .slice ad zd.length cd] 56)).alloc (.cells #[.int .u8 tp, .int .u32 s, .int .u32 d, .int .u16 a, .int .u16 b] 68)).alloc (.cells zpk.toArray 56)) := (((Below.refl _ _).alloc (Nat.le_refl _) _).alloc (by simp) _).alloc (by simp <;> omega) _
 have p0 : (((w.alloc (.cells #[.int .u8 tos, .int .u16 id, .bool keep, .int .u8 ttl, .int .u8 pr, .int .u32 src, .int .u32 dst, .slice ao zo.length co, .slice ad zd.length cd] 56)).alloc (.cells #[.int .u8 tp, .int .u32 s, .int .u32 d, .int .u16 a, .int .u16 b] 68)).alloc (.cells zpk.toArray 56)).heap[w.heap.size]? = some (.cells #[.int .u8 tos, .int .u16 id, .bool keep, .int .u8 ttl, .int .u8 pr, .int .u32 src, .int .u32 dst, .slice ao zo.length co, .slice ad zd.length cd] 56) := (Below.heap_alloc _ _ _ (by simp <;> omega)).trans ((Below.heap_alloc _ _ _ (by simp)).trans (heap_alloc_new w _))
 have t0 : (((w.alloc (.cells #[.int .u8 tos, .int .u16 id, .bool keep, .int .u8 ttl, .int .u8 pr, .int .u32 src, .int .u32 dst, .slice ao zo.length co, .slice ad zd.length cd] 56)).alloc (.cells #[.int .u8 tp, .int .u32 s, .int .u32 d, .int .u16 a, .int .u16 b] 68)).alloc (.cells zpk.toArray 56)).heap[w.heap.size + 1]? = some (.cells #[.int .u8 tp, .int .u32 s, .int .u32 d, .int .u16 a, .int .u16 b] 68) := by
  have := heap_alloc_new (w.alloc (.cells #[.int .u8 tos, .int .u16 id, .bool keep, .int .u8 ttl, .int .u8 pr, .int .u32 src, .int .u32 dst, .slice ao zo.length co, .slice ad zd.length cd] 56)) (.cells #[.int .u8 tp, .int .u32 s, .int .u32 d, .int .u16 a, .int .u16 b] 68)
  rw [World.size_alloc] at this
  exact (Below.heap_alloc _ _ _ (by simp)).trans this
 have r0 : (((w.alloc (.cells #[.int .u8 tos, .int .u16 id, .bool keep, .int .u8 ttl, .int .u8 pr, .int .u32 src, .int .u32 dst, .slice ao zo.length co, .slice ad zd.length cd] 56)).alloc (.cells #[.int .u8 tp, .int .u32 s, .int .u32 d, .int .u16 a, .int .u16 b] 68)).alloc (.cells zpk.toArray 56)).heap[w.heap.size + 1 + 1]? = some (.cells zpk.toArray 56) := by
  have := heap_alloc_new ((w.alloc (.cells #[.int .u8 tos, .int .u16 id, .bool keep, .int .u8 ttl, .int .u8 pr, .int .u32 src, .int .u32 dst, .slice ao zo.length co, .slice ad zd.length cd] 56)).alloc (.cells #[.int .u8 tp, .int .u32 s, .int .u32 d, .int .u16 a, .int .u16 b] 68)) (.cells zpk.toArray 56)
  simpa only [World.size_alloc] using this
 have P0 := hide p0
 have T0 := hide t0
 have R0 := hide r0
 clear p0 t0 r0
 go_enter Tryz.func152, Tryz.ntmps152
 go_upto_region 1 with fail
 generalize ((w.alloc _).alloc _).alloc _ = W0 at *
 have kP := block_cell P0.out
 have hs0 : w.heap.size + 1 + 1 < W0.heap.size := (bl9 R0.out)
 go_wp2_with fail
 refine (quoted_any tos id ttl pr src dst keep _ _ zd W0 (hT.below hb0 hT.pos) hBd ((hId.below hb0).mono hb0.size) (by omega)).mono ?_
 clear kP
 unfold quv
 obtain ⟨oe, HO⟩ : ∃ e, Hid (que pr zd = e) := ⟨_, rfl⟩
 rw [HO.out]
 rintro e w1 ⟨hb1, rfl⟩
 have l1 : Later W0 w1 := hb1
 have hw1 : Below w.heap.size w w1 := Later.below hb0 (Nat.le_refl _) l1
 by_cases c2 : oe = 0
 case neg =>
  rw [otv_no c2]
  have t2 : (oe != 0) = true := by simp [c2]
  have HF : Hid (rqe pr tp zo.length zd = oe) := by show _ = _; unfold rqe; rw [HO.out, if_pos c2]
  have HNZ : Hid (oe ≠ 0) := c2
  have r1 := (l1.block (w.heap.size + 1 + 1) hs0).trans R0.out
  have lA := later_alloc' w1 (.cells #[.int .u8 0, .int .u32 0, .int .u32 0, .int .u16 0, .int .u16 0] 68)
  have r2 := (lA.block (w.heap.size + 1 + 1) (bl9 r1)).trans r1
  have hw2 : Below w.heap.size w (w1.alloc (.cells #[.int .u8 0, .int .u32 0, .int .u32 0, .int .u16 0, .int .u16 0] 68)) := Later.below hw1 (Nat.le_refl _) lA
  have R2 := hide r2
  clear c2 r1 r2 lA
  go_upto_region 2 with fail
  generalize w1.alloc _ = w2 at *
  have kR := block_cell R2.out
  have fR := block_frozen R2.out
  go_wp2_with fail
  generalize hV : (((((((((w2.setCell ⟨w.heap.size + 1 + 1, 0, none⟩ _).setCell ⟨w.heap.size + 1 + 1, 1, none⟩ _).setCell ⟨w.heap.size + 1 + 1, 2, none⟩ _).setCell ⟨w.heap.size + 1 + 1, 3, none⟩ _).setCell ⟨w.heap.size + 1 + 1, 4, none⟩ _).setCell ⟨w.heap.size + 1 + 1, 5, none⟩ _).setCell ⟨w.heap.size + 1 + 1, 6, none⟩ _).setCell ⟨w.heap.size + 1 + 1, 7, none⟩ _).setCell ⟨w.heap.size + 1 + 1, 8, none⟩ _) = V8; have hV9 : V8 = putRow w2 (w.heap.size + 1 + 1) 0 zpk := hV.symm; have hb8 : But (fun b => b = w.heap.size + 1 + 1) w2 V8 := by { rw [hV9]; exact putRow_but (E := fun b => b = w.heap.size + 1 + 1) (n := w.heap.size + 1 + 1) rfl _ _ _ _ (But.refl _ _) }; have p8 := putRow_all zpk R2.out rfl; rw [← hV9] at p8; clear hV hV9; have P8 := block_cell p8; have hw8 : Below w.heap.size w V8 := (hw2).trans (hb8.below (hw2).size (fun k h e => by omega)); exact bodyPost_ret (v := .tuple #[.agg zpk.toArray, .int .i64 oe]) (by simp [results, Tryz.results152, go_sem, P8, zpk]) rfl ⟨hw8, .inl ⟨by rw [HF.out]; exact HNZ.out, by rw [HF.out]⟩⟩
 subst c2
 rw [otv_ok]
 obtain ⟨hpi, her, hrd, hqi⟩ := que_zero HO.out
 have hok := qie_pok hqi
 have hBm := hBd.drop 8
 have hx1 := wat4_bd9 hBm 12
 have hx2 := wat4_bd9 hBm 16
 have hx3 := qia_bd (pr := qpr (zd.drop 8)) (By_qdt hBm)
 have hx4 := qib_bd (pr := qpr (zd.drop 8)) (By_qdt hBm)
 have HU : Hid (qun (zd.drop 8) s d a b = ⟨qpr (zd.drop 8), wat4 (zd.drop 8) 12, wat4 (zd.drop 8) 16, qia (qpr (zd.drop 8)) (qdt (zd.drop 8)), qib (qpr (zd.drop 8)) (qdt (zd.drop 8)), qpr (zd.drop 8), s, d, a, b⟩) := rfl
 have HE : Hid (rqe pr tp zo.length zd = if qpr (zd.drop 8) ≠ tp then 12 else flt zo.length (8 + (zd.drop 8).length)) := by show _ = _; unfold rqe; rw [HO.out, if_neg (by simp)]
 generalize qpr (zd.drop 8) = qp at *
 generalize wat4 (zd.drop 8) 12 = xs at *
 generalize wat4 (zd.drop 8) 16 = xd at *
 generalize qia qp (qdt (zd.drop 8)) = xa at *
 generalize qib qp (qdt (zd.drop 8)) = xb at *
 have P1 := hide ((l1.block w.heap.size (by omega)).trans P0.out)
 have T1 := hide ((l1.block (w.heap.size + 1) (by omega)).trans T0.out)
 have R1 := hide ((l1.block (w.heap.size + 1 + 1) hs0).trans R0.out)
 have hs1 : w.heap.size + 1 + 1 < w1.heap.size := Nat.lt_of_lt_of_le hs0 l1.size
 have lA := later_alloc' w1 (.cells #[.int .u8 qp, .int .u32 xs, .int .u32 xd, .int .u16 xa, .int .u16 xb] 68)
 have W2 := hide (heap_alloc_new w1 (.cells #[.int .u8 qp, .int .u32 xs, .int .u32 xd, .int .u16 xa, .int .u16 xb] 68))
 clear P0 T0 R0
 go_upto_region 2 with fail
 generalize w1.alloc _ = w2 at *
 have P2 := hide ((lA.block w.heap.size (by omega)).trans P1.out)
 have T2 := hide ((lA.block (w.heap.size + 1) (by omega)).trans T1.out)
 have R2 := hide ((lA.block (w.heap.size + 1 + 1) hs1).trans R1.out)
 have hs2 : w1.heap.size < w2.heap.size := (bl9 W2.out)
 have hw2 : Below w.heap.size w w2 := Later.below hw1 (Nat.le_refl _) lA
 generalize hgw : w1.heap.size = gw at *
 clear P1 T1 R1 lA l1 hb1 hw1 hgw
 have kT := block_cell T2.out
 have kW := block_cell W2.out
 by_cases c1 : qp = tp
 case neg =>
  have t1 : (qp != tp) = true := by simp [c1]
  have HF : Hid (rqe pr tp zo.length zd = 12) := by show _ = _; rw [HE.out, if_pos c1]
  have HNZ : Hid ((12 : Int) ≠ 0) := by show (12 : Int) ≠ 0; decide
  have kR := block_cell R2.out
  have fR := block_frozen R2.out
  clear c1
  go_wp2_with fail
  generalize hV : (((((((((w2.setCell ⟨w.heap.size + 1 + 1, 0, none⟩ _).setCell ⟨w.heap.size + 1 + 1, 1, none⟩ _).setCell ⟨w.heap.size + 1 + 1, 2, none⟩ _).setCell ⟨w.heap.size + 1 + 1, 3, none⟩ _).setCell ⟨w.heap.size + 1 + 1, 4, none⟩ _).setCell ⟨w.heap.size + 1 + 1, 5, none⟩ _).setCell ⟨w.heap.size + 1 + 1, 6, none⟩ _).setCell ⟨w.heap.size + 1 + 1, 7, none⟩ _).setCell ⟨w.heap.size + 1 + 1, 8, none⟩ _) = V8; have hV9 : V8 = putRow w2 (w.heap.size + 1 + 1) 0 zpk := hV.symm; have hb8 : But (fun b => b = w.heap.size + 1 + 1) w2 V8 := by { rw [hV9]; exact putRow_but (E := fun b => b = w.heap.size + 1 + 1) (n := w.heap.size + 1 + 1) rfl _ _ _ _ (But.refl _ _) }; have p8 := putRow_all zpk R2.out rfl; rw [← hV9] at p8; clear hV hV9; have P8 := block_cell p8; have hw8 : Below w.heap.size w V8 := (hw2).trans (hb8.below (hw2).size (fun k h e => by omega)); exact bodyPost_ret (v := .tuple #[.agg zpk.toArray, .int .i64 12]) (by simp [results, Tryz.results152, go_sem, P8, zpk]) rfl ⟨hw8, .inl ⟨by rw [HF.out]; exact HNZ.out, by rw [HF.out]⟩⟩
 subst c1
 have t1 : (qp != qp) = false := by simp
 have HFL : Hid (rqe pr qp zo.length zd = flt zo.length (8 + (zd.drop 8).length)) := by show _ = _; rw [HE.out, if_neg (by simp)]
 have kP := block_cell P2.out
 go_upto_region 6 with fail
 go_wp2_with fail
 refine (parseIcmp_any tos id ttl pr src dst keep _ _ zd w2 hBd ((hId.below hw2).mono hw2.size) (by omega)).mono ?_
 rintro e w3 ⟨hb3, ⟨hff, rfl⟩ | ⟨hff, a3, c3, rfl, hO3⟩⟩
 ·exact absurd hpi hff
 have hlen : zd.length - 8 = (zd.drop 8).length := by rw [List.length_drop]
 rw [hlen] at hO3 ⊢
 have HLN := hide hlen
 clear hlen kP kT kW hff
 have l3 : Later w2 w3 := hb3
 have hw3 : Below w.heap.size w w3 := Later.below hw2 (Nat.le_refl _) l3
 have hty := Mt.By.at hBd 0
 have hco := Mt.By.at hBd 1
 have hre := wat4_bd9 hBd 4
 generalize h1 : zd[0]?.getD 0 = ty at *
 generalize h2 : zd[1]?.getD 0 = cde at *
 generalize h3 : wat4 zd 4 = rs at *
 have E1 := hide h1
 have E2 := hide h2
 have E3 := hide h3
 clear h1 h2 h3
 have hmz : (zd.drop 8).length ≤ 140737488351232 := by rw [List.length_drop]; omega
 generalize h4 : zd.drop 8 = mz at *
 have E4 := hide h4
 clear h4
 have lM := later_alloc' w3 (.cells #[.int .u8 ty, .int .u8 cde, .int .u32 rs, .slice a3 mz.length c3] 65)
 have M4 := hide (heap_alloc_new w3 (.cells #[.int .u8 ty, .int .u8 cde, .int .u32 rs, .slice a3 mz.length c3] 65))
 have l4 := l3.trans lM
 have P4 := hide ((l4.block w.heap.size (by omega)).trans P2.out)
 have T4 := hide ((l4.block (w.heap.size + 1) (by omega)).trans T2.out)
 have R4 := hide ((l4.block (w.heap.size + 1 + 1) (by omega)).trans R2.out)
 have W4 := hide ((l4.block gw hs2).trans W2.out)
 have O4 := hide (hO3.later lM)
 have hg3 : w.heap.size + 1 + 1 < w3.heap.size := by have := l3.size; omega
 have hw4 : Below w.heap.size w (w3.alloc (.cells #[.int .u8 ty, .int .u8 cde, .int .u32 rs, .slice a3 mz.length c3] 65)) := Later.below hw3 (Nat.le_refl _) lM
 clear hO3 P2 T2 R2 W2 lM l4 hb3
 go_upto_region 7 with fail
 generalize w3.alloc _ = w4 at *
 generalize hgm : w3.heap.size = gm at *
 have hgm4 : gm < w4.heap.size := (bl9 M4.out)
 have hgm2 : w2.heap.size ≤ gm := by rw [← hgm]; exact l3.size
 clear hgm l3 hw3
 have kM := block_cell M4.out
 have kW := block_cell W4.out
 have kT := block_cell T4.out
 have H5 := hide (requoted_any qp xs xd xa xb s d a b (.slice a3 mz.length c3) mz w4 hBm O4.out.rd (by omega) hrd hok hx1 hx2 hx3 hx4 hs hd ha hb)
 go_wp2_with fail
 refine H5.out.mono ?_
 rintro e w5 ⟨x5, c5, rfl, O5, b5⟩
 have l5 : Later w4 w5 := b5
 have M5 := hide ((l5.block gm hgm4).trans M4.out)
 have P5 := hide ((l5.block w.heap.size (by omega)).trans P4.out)
 have R5 := hide ((l5.block (w.heap.size + 1 + 1) (by omega)).trans R4.out)
 have hw5 : Below w.heap.size w w5 := Later.below hw4 (Nat.le_refl _) l5
 have hgm5 : gm < w5.heap.size := Nat.lt_of_lt_of_le hgm4 l5.size
 clear kM kW kT M4 P4 R4 W4 T4 O4 H5 b5 l5 hw4 hgm4
 rw [← HU.out] at O5
 have HRL : Hid ((rqt (qun mz s d a b) mz).length = mz.length) := rqt_length hBm hrd
 have HRB : Hid (Mt.By (rqt (qun mz s d a b) mz)) := by
  refine ((rnm_by (hBm.take _) hs hd).append ((qsD_by (By_qdt hBm) ?_).append (hBm.drop _)))
  exact ⟨hs, hd, ha, hb⟩
 generalize h5 : rqt (qun mz s d a b) mz = rz at *
 have E5 := hide h5
 clear h5
 have M6 := hide (heap_set1 M5.out 3 (.slice x5 mz.length c5))
 have bM : But (fun q => q = gm) w5 (w5.setCell ⟨gm, 3, none⟩ (.slice x5 mz.length c5)) := But.setCell (E := fun q => q = gm) (But.refl _ _) (p := ⟨gm, 3, none⟩) rfl _
 have kM := block_cell M5.out
 have fM := block_frozen M5.out
 go_upto_region 8 with fail
 generalize w5.setCell ⟨gm, 3, none⟩ _ = w6 at *
 have M6' : Hid (w6.heap[gm]? = some (.cells #[.int .u8 ty, .int .u8 cde, .int .u32 rs, .slice x5 mz.length c5] 65)) := by have := M6.out; simp at this; exact this
 have P6 := hide ((bM.block w.heap.size (by omega) (by omega)).trans P5.out)
 have R6 := hide ((bM.block (w.heap.size + 1 + 1) (by omega) (by omega)).trans R5.out)
 have O6 := hide (Ow.aside O5 M5.out (by decide) bM)
 have hw6 : Below w.heap.size w w6 := hw5.trans (bM.below hw5.size (fun k hk e => by omega))
 have hgm6 : gm < w6.heap.size := (bl9 M6'.out)
 clear kM fM M5 M6 P5 R5 O5 hw5 hgm5 bM
 have kP := block_cell P6.out
 have fP := block_frozen P6.out
 have P7 := hide (heap_set1 (heap_set1 P6.out 5 (.int .u32 ns)) 6 (.int .u32 nd))
 have bP : But (fun q => q = w.heap.size) w6 ((w6.setCell ⟨w.heap.size, 5, none⟩ (.int .u32 ns)).setCell ⟨w.heap.size, 6, none⟩ (.int .u32 nd)) := But.setCell (E := fun q => q = w.heap.size) (But.setCell (E := fun q => q = w.heap.size) (But.refl _ _) (p := ⟨w.heap.size, 5, none⟩) rfl _) (p := ⟨w.heap.size, 6, none⟩) rfl _
 go_upto_region 9 with fail
 generalize (w6.setCell ⟨w.heap.size, 5, none⟩ _).setCell ⟨w.heap.size, 6, none⟩ _ = w7 at *
 have P7' : Hid (w7.heap[w.heap.size]? = some (.cells #[.int .u8 tos, .int .u16 id, .bool keep, .int .u8 ttl, .int .u8 pr, .int .u32 ns, .int .u32 nd, .slice ao zo.length co, .slice ad zd.length cd] 56)) := by have := P7.out; simp at this; exact this
 have M7 := hide ((bP.block gm hgm6 (by omega)).trans M6'.out)
 have R7 := hide ((bP.block (w.heap.size + 1 + 1) (by omega) (by omega)).trans R6.out)
 have O7 := hide (Ow.aside O6.out P6.out (by decide) bP)
 have hw7 : Below w.heap.size w w7 := hw6.trans (bP.below hw6.size (fun k hk e => by omega))
 have hs7 : w.heap.size + 1 + 1 < w7.heap.size := (bl9 R7.out)
 clear kP fP P6 P7 M6' R6 O6 hw6 bP hgm6
 have kP := block_cell P7'.out
 have kM := block_cell M7.out
 obtain ⟨fl, HFF⟩ : ∃ f, Hid (flt zo.length (8 + mz.length) = f) := ⟨_, rfl⟩
 have H8 := hide (buildIcmp_any tos id ttl pr ns nd ty cde rs keep (.slice ao zo.length co) (.slice ad zd.length cd) (.slice x5 mz.length c5) zo rz w7 hBo ((hIo.below hw7).mono hw7.size) HRB.out O7.out.rd hlo (by rw [HRL.out]; omega) ht hid htt hns hnd hty hco hre)
 rw [HRL.out, HFF.out] at H8
 go_wp2_with fail
 refine H8.out.mono ?_
 rintro e w8 ⟨hb8', ⟨hf8, rfl⟩ | ⟨hf8, a8, c8, a9, c9, rfl, Oo, Od⟩⟩
 ·have HF : Hid (rqe pr qp zo.length zd = fl) := by show _ = _; rw [HFL.out, HFF.out]
  have HNZ : Hid (fl ≠ 0) := hf8
  have l8 : Later w7 w8 := hb8'
  have R8 := hide ((l8.block (w.heap.size + 1 + 1) hs7).trans R7.out)
  have hw8' : Below w.heap.size w w8 := Later.below hw7 (Nat.le_refl _) l8
  clear kP kM hf8 hb8'
  have kR := block_cell R8.out
  have fR := block_frozen R8.out
  go_wp2_with fail
  generalize hV : (((((((((w8.setCell ⟨w.heap.size + 1 + 1, 0, none⟩ _).setCell ⟨w.heap.size + 1 + 1, 1, none⟩ _).setCell ⟨w.heap.size + 1 + 1, 2, none⟩ _).setCell ⟨w.heap.size + 1 + 1, 3, none⟩ _).setCell ⟨w.heap.size + 1 + 1, 4, none⟩ _).setCell ⟨w.heap.size + 1 + 1, 5, none⟩ _).setCell ⟨w.heap.size + 1 + 1, 6, none⟩ _).setCell ⟨w.heap.size + 1 + 1, 7, none⟩ _).setCell ⟨w.heap.size + 1 + 1, 8, none⟩ _) = V8; have hV9 : V8 = putRow w8 (w.heap.size + 1 + 1) 0 zpk := hV.symm; have hb8 : But (fun b => b = w.heap.size + 1 + 1) w8 V8 := by { rw [hV9]; exact putRow_but (E := fun b => b = w.heap.size + 1 + 1) (n := w.heap.size + 1 + 1) rfl _ _ _ _ (But.refl _ _) }; have p8 := putRow_all zpk R8.out rfl; rw [← hV9] at p8; clear hV hV9; have P8 := block_cell p8; have hw8 : Below w.heap.size w V8 := (hw8').trans (hb8.below (hw8').size (fun k h e => by omega)); exact bodyPost_ret (v := .tuple #[.agg zpk.toArray, .int .i64 fl]) (by simp [results, Tryz.results152, go_sem, P8, zpk]) rfl ⟨hw8, .inl ⟨by rw [HF.out]; exact HNZ.out, by rw [HF.out]⟩⟩
 ·subst hf8
  have HF : Hid (rqe pr qp zo.length zd = 0) := by show _ = _; rw [HFL.out, HFF.out]
  have l8 : Later w7 w8 := hb8'
  have R8 := hide ((l8.block (w.heap.size + 1 + 1) hs7).trans R7.out)
  have hw8' : Below w.heap.size w w8 := Later.below hw7 (Nat.le_refl _) l8
  have OO := hide (Oo.mono hw7.size)
  have OD := hide (Od.mono hw7.size)
  clear kP kM hb8' Oo Od
  have kR := block_cell R8.out
  have fR := block_frozen R8.out
  go_wp2_with fail
  generalize hV : (((((((((w8.setCell ⟨w.heap.size + 1 + 1, 0, none⟩ _).setCell ⟨w.heap.size + 1 + 1, 1, none⟩ _).setCell ⟨w.heap.size + 1 + 1, 2, none⟩ _).setCell ⟨w.heap.size + 1 + 1, 3, none⟩ _).setCell ⟨w.heap.size + 1 + 1, 4, none⟩ _).setCell ⟨w.heap.size + 1 + 1, 5, none⟩ _).setCell ⟨w.heap.size + 1 + 1, 6, none⟩ _).setCell ⟨w.heap.size + 1 + 1, 7, none⟩ _).setCell ⟨w.heap.size + 1 + 1, 8, none⟩ _) = V8
  have hV9 : V8 = putRow w8 (w.heap.size + 1 + 1) 0 [.int .u8 tos, .int .u16 id, .bool keep, .int .u8 ttl, .int .u8 1, .int .u32 ns, .int .u32 nd, .slice a8 zo.length c8, .slice a9 (8 + mz.length) c9] := hV.symm
  have hb8 : But (fun b => b = w.heap.size + 1 + 1) w8 V8 := by rw [hV9]; exact putRow_but (E := fun b => b = w.heap.size + 1 + 1) (n := w.heap.size + 1 + 1) rfl _ _ _ _ (But.refl _ _)
  have p8 := putRow_all [.int .u8 tos, .int .u16 id, .bool keep, .int .u8 ttl, .int .u8 1, .int .u32 ns, .int .u32 nd, .slice a8 zo.length c8, .slice a9 (8 + mz.length) c9] R8.out rfl
  rw [← hV9] at p8
  clear hV hV9
  have P8 := block_cell p8
  rw [← E5.out, ← E1.out, ← E2.out, ← E3.out, ← E4.out] at OD
  rw [← E4.out] at P8
  have hw8 : Below w.heap.size w V8 := hw8'.trans (hb8.below hw8'.size (fun k h e => by omega))
  exact bodyPost_ret (v := .tuple #[.agg #[.int .u8 tos, .int .u16 id, .bool keep, .int .u8 ttl, .int .u8 1, .int .u32 ns, .int .u32 nd, .slice a8 zo.length c8, .slice a9 (8 + (zd.drop 8).length) c9], .int .i64 0]) (by simp only [E4.out] at P8 ⊢; simp [results, Tryz.results152, go_sem, P8]) rfl ⟨hw8, .inr ⟨HF.out, a8, c8, a9, c9, rfl, Ow.aside OO.out R8.out (by decide) hb8, Ow.aside OD.out R8.out (by decide) hb8⟩⟩
set_option maxRecDepth 100000 in
set_option maxHeartbeats 4000000 in
theorem comes_pr (g : Nat) (tos id ttl pr src dst : Int) (keep : Bool) (so sd : Value) (side : Int) (bk : Bool) (f : Fl) (w : World) (hF : w.heap[f.blk]? = some (.cells (flc f).toArray 93 (0, 0))) (hs : f.side = 0) (hb : Comes side bk) :
  Calls Tryz.prog 151 #[.agg #[.pointer (some ⟨g, 0, none⟩), .int .u8 tos, .int .u16 id, .bool keep, .int .u8 ttl, .int .u8 pr, .int .u32 src, .int .u32 dst, so, sd, .int .i64 side], .pointer (some ⟨f.blk, 0, none⟩), .bool bk] w fun e w' => e = .returned (.bool true) ∧ Later w w' := by
 have l0 := later_allocG w (.cells #[.pointer (some ⟨g, 0, none⟩), .int .u8 tos, .int .u16 id, .bool keep, .int .u8 ttl, .int .u8 pr, .int .u32 src, .int .u32 dst, so, sd, .int .i64 side] 149)
 have C0 := hide (heap_alloc_new w (.cells #[.pointer (some ⟨g, 0, none⟩), .int .u8 tos, .int .u16 id, .bool keep, .int .u8 ttl, .int .u8 pr, .int .u32 src, .int .u32 dst, so, sd, .int .i64 side] 149))
 have HF := hide (later_keep l0 hF)
 have HS := hide hs
 clear hF hs
 rcases hb with ⟨rfl, rfl⟩ | ⟨rfl, rfl⟩
 all_goals
  go_enter Tryz.func151, Tryz.ntmps151
  go_upto_region 1 with fail
  generalize w.alloc _ = w1 at *
  generalize w.heap.size = gx at *
  refine anyR_begin (R := Later) Later.pre Later.drew 11 rfl (by kernel_rfl) (fun V0 hV0 => ?_)
  have q0 : ∀ v, Later V0 v → ∀ j, v.cell? ⟨gx, j, none⟩ = _ := fun v hv => block_cell (later_keep (hV0.trans hv) C0.out)
  have q1 : ∀ v, Later V0 v → ∀ j, v.cell? ⟨f.blk, j, none⟩ = (flc f).toArray[j]? := fun v hv => block_cell (later_keep (hV0.trans hv) HF.out)
  unfold flc at q1
  rw [HS.out] at q1
  refine rV Later.pre 0 rfl rfl ?_; apply Exists.intro; refine ⟨fun v1 hv1 => ?_, ?_⟩; (· (go_simp; rfl)); simp only [Act.put, sA, sB, sC]
  refine rV Later.pre 1 rfl rfl ?_; apply Exists.intro; refine ⟨fun v1 hv1 => ?_, ?_⟩; (· (go_simp; rfl)); simp only [Act.put, sA, sB, sC]
  refine rV Later.pre 2 rfl rfl ?_; apply Exists.intro; refine ⟨fun v1 hv1 => ?_, ?_⟩; (· (go_simp; rfl)); simp only [Act.put, sA, sB, sC]
  refine rV Later.pre 3 rfl rfl ?_; apply Exists.intro; refine ⟨fun v1 hv1 => ?_, ?_⟩; (· (go_simp; rfl)); simp only [Act.put, sA, sB, sC]
  refine rV Later.pre 4 rfl rfl ?_; apply Exists.intro; refine ⟨fun v1 hv1 => ?_, ?_⟩; (· (go_simp; rfl)); simp only [Act.put, sA, sB, sC]
  refine rV Later.pre 5 rfl rfl ?_; apply Exists.intro; refine ⟨fun v1 hv1 => ?_, ?_⟩; (· (go_simp; rfl)); simp only [Act.put, sA, sB, sC]
  refine rV Later.pre 6 rfl rfl ?_; apply Exists.intro; refine ⟨fun v1 hv1 => ?_, ?_⟩; (· (go_simp; rfl)); simp only [Act.put, sA, sB, sC]
  refine rV Later.pre 7 rfl rfl ?_; apply Exists.intro; refine ⟨fun v1 hv1 => ?_, ?_⟩; (· (go_simp; rfl)); simp only [Act.put, sA, sB, sC]
  refine rV Later.pre 8 rfl rfl ?_; apply Exists.intro; refine ⟨fun v1 hv1 => ?_, ?_⟩; (· (go_simp; rfl)); simp only [Act.put, sA, sB, sC]
  refine rV Later.pre 9 rfl rfl ?_; apply Exists.intro; refine ⟨fun v1 hv1 => ?_, ?_⟩; (· (go_simp; rfl)); simp only [Act.put, sA, sB, sC]
  refine rV Later.pre 10 rfl rfl ?_; apply Exists.intro; refine ⟨fun v1 hv1 => ?_, ?_⟩; (· (go_simp; rfl)); simp only [Act.put, sA, sB, sC]
  refine anyR_done (by kernel_rfl) (fun V9 hV9 => ?_)
  go_wp2_with fail
  go_ret
  exact ⟨rfl, l0.trans (hV0.trans hV9)⟩
structure Erb (s : Gf) (f : Fl) (zo zd : List Int) (qs qd qa qb : Int) : Prop where
 hf : f ∈ s.fs
 hu : IdU s
 kx : ∃ (k : Nat) (r : Rw), kx 17 qd qs qb qa s.rw = some k ∧ (s.rw (bki 17 qd qs qb qa))[k]? = some r ∧ r.id = f.id
 hs : 0 ≤ qs ∧ qs ≤ 4294967295
 hd : 0 ≤ qd ∧ qd ≤ 4294967295
 ha : 0 ≤ qa ∧ qa ≤ 65535
 hb : 0 ≤ qb ∧ qb ≤ 65535
 bq : ¬ ((17 : Int) = f.o.pr ∧ qd = f.o.src ∧ qs = f.o.dst ∧ kyp 17 qb = kyp f.o.pr f.o.sp ∧ qa = f.o.dp)
 sd : f.side = 0
 hBo : TuB f.o
 po : f.o.pr = 17
 qu : que 1 zd = 0
 qv : quv 1 zd = .agg #[.int .u8 17, .int .u32 qs, .int .u32 qd, .int .u16 qa, .int .u16 qb]
 qp : qpr (zd.drop 8) = 17
 fl : flt zo.length (8 + (zd.drop 8).length) = 0
def RqQ (w w' : World) (f : Fl) (tos id ttl src : Int) (keep : Bool) (zo zd : List Int) (e : Ending) : Prop := ∃ (ao : Option Addr) (co : Nat) (ad : Option Addr) (cd nd : Nat), nd = 8 + (zd.drop 8).length ∧ e = .returned (.agg #[.int .u8 tos, .int .u16 id, .bool keep, .int .u8 ttl, .int .u8 1, .int .u32 src, .int .u32 f.o.src, .slice ao zo.length co, .slice ad nd cd]) ∧ Later w w' ∧ Ow w.heap.size w' (.slice ao zo.length co) zo ∧ Ow w.heap.size w' (.slice ad nd cd) (icm (zd[0]?.getD 0) (zd[1]?.getD 0) (wat4 zd 4) (rqt (qun (zd.drop 8) f.o.src f.o.dst f.o.sp f.o.dp) (zd.drop 8)))
set_option maxRecDepth 100000 in
set_option maxHeartbeats 8000000 in
theorem requoted_yes (base g : Nat) (s : Gf) (f : Fl) (tos id ttl src dst : Int) (keep : Bool) (so sd : Value) (zo zd : List Int) (qs qd qa qb : Int) (w : World) (h : GF base w g s) (hE : Erb s f zo zd qs qd qa qb) (hT : Tb w) (hBo : Mt.By zo) (hBd : Mt.By zd) (hIo : Rd w.heap.size w so zo) (hId : Rd w.heap.size w sd zd) (hlo : zo.length ≤ 60000) (hld : zd.length ≤ 70000) (ht : 0 ≤ tos ∧ tos ≤ 255) (hid : 0 ≤ id ∧ id ≤ 65535) (htl : 0 ≤ ttl ∧ ttl ≤ 255) (hsr : 0 ≤ src ∧ src ≤ 4294967295) :
  Calls Tryz.prog 107 #[.agg #[.pointer (some ⟨g, 0, none⟩), .int .u8 tos, .int .u16 id, .bool keep, .int .u8 ttl, .int .u8 1, .int .u32 src, .int .u32 dst, so, sd, .int .i64 1]] w fun e w' => RqQ w w' f tos id ttl src keep zo zd e := by
 obtain ⟨soa, soc, rfl, _, _⟩ := hIo.slice
 obtain ⟨sda, sdc, rfl, _, _⟩ := hId.slice
 obtain ⟨l0, c0, c1⟩ := alloc2 w (.cells #[.pointer (some ⟨g, 0, none⟩), .int .u8 tos, .int .u16 id, .bool keep, .int .u8 ttl, .int .u8 1, .int .u32 src, .int .u32 dst, .slice soa zo.length soc, .slice sda zd.length sdc, .int .i64 1] 149) (.cells #[.int .u8 0, .int .u16 0, .bool false, .int .u8 0, .int .u8 0, .int .u32 0, .int .u32 0, .slice none 0 0, .slice none 0 0] 56)
 have C0 := hide c0
 have C1 := hide c1
 have HQ := hide (fun W (l : Later w W) => quoted_any tos id ttl 1 src dst keep (.slice soa zo.length soc) (.slice sda zd.length sdc) zd W (hT.later l) hBd (hId.later l) (by omega))
 rw [hE.qv, hE.qu] at HQ
 obtain ⟨kk, rr, hk1, hk2, hk3⟩ := hE.kx
 have HLU := hide (fun W (l : Later w W) => lookUpF_yes base g s f true 17 qd qs qb qa kk rr W (h.later l) hE.hf hE.hu hk1 hk2 hk3 hE.hd hE.hs hE.hb hE.ha ⟨fun _ => hE.bq, fun _ => rfl⟩)
 have HFB := hide (fun W (l : Later w W) => later_keep l (h.fb f hE.hf).2)
 have HG := hide (h.later l0)
 have hqe : rqe 1 17 zo.length zd = 0 := by unfold rqe; rw [if_neg (by rw [hE.qu]; simp), if_neg (by rw [hE.qp]; simp), hE.fl]
 have HRW := hide (fun W (l : Later w W) => requote_any tos id ttl 1 src dst keep (.slice soa zo.length soc) (.slice sda zd.length sdc) zo zd src f.o.src 17 f.o.src f.o.dst f.o.sp f.o.dp W (hT.later l) hBo hBd (hIo.later l) (hId.later l) (by omega) (by omega) ht hid htl hsr hE.hBo.1 hE.hBo.1 hE.hBo.2.1 hE.hBo.2.2.1 hE.hBo.2.2.2)
 obtain ⟨nd, hnd⟩ : ∃ nd, nd = 8 + (zd.drop 8).length := ⟨_, rfl⟩
 rw [← hnd] at HRW
 have HND := hide hnd
 have HSD := hide hE.sd
 have HPO := hide hE.po
 have HQE := hide hqe
 clear c0 c1 hT hBo hBd hIo hId hE hk1 hk2 hk3 hqe h hnd
 go_enter Tryz.func107, Tryz.ntmps107
 go_upto_region 1 with fail
 generalize (w.alloc (.cells _ 149)).alloc (.cells _ 56) = w1 at *
 generalize hgx : w.heap.size = gx at C0 C1 ⊢
 have k0 := block_cell C0.out
 go_wp2_with fail
 refine (HQ.out w1 l0).mono ?_
 rintro e w2 ⟨l2, rfl⟩
 have l2' : Later w1 w2 := l2
 clear k0 HQ l2
 have la := later_allocG w2 (.cells #[.int .u8 17, .int .u32 qs, .int .u32 qd, .int .u16 qa, .int .u16 qb] 68)
 have X3 := hide (heap_alloc_new w2 (.cells #[.int .u8 17, .int .u32 qs, .int .u32 qd, .int .u16 qa, .int .u16 qb] 68))
 have L13 : Later w1 (w2.alloc (.cells #[.int .u8 17, .int .u32 qs, .int .u32 qd, .int .u16 qa, .int .u16 qb] 68)) := l2'.trans la
 clear la l2'
 go_upto_region 2 with fail
 change Code.wp _ _ _ _ (w2.alloc (.cells #[.int .u8 17, .int .u32 qs, .int .u32 qd, .int .u16 qa, .int .u16 qb] 68))
 generalize w2.alloc (.cells #[.int .u8 17, .int .u32 qs, .int .u32 qd, .int .u16 qa, .int .u16 qb] 68) = w3 at *
 generalize hg3 : w2.heap.size = g3 at X3 ⊢
 have k3 := block_cell X3.out
 go_wp2_with fail
 refine (grefuse_no 6 _).mono ?_
 rintro e w4 ⟨rfl, hw4⟩
 subst hw4
 go_upto_region 3 with fail
 clear k3
 refine anyR_begin (R := Later) Later.pre Later.drew 12 rfl (by kernel_rfl) (fun V0 hV0 => ?_)
 have q0 : ∀ v, Later V0 v → ∀ j, v.cell? ⟨gx, j, none⟩ = _ := fun v hv => block_cell (later_keep (L13.trans (hV0.trans hv)) C0.out)
 have q1 : ∀ v, Later V0 v → ∀ j, v.cell? ⟨g3, j, none⟩ = _ := fun v hv => block_cell (later_keep (hV0.trans hv) X3.out)
 refine rV Later.pre 0 rfl rfl ?_; apply Exists.intro; refine ⟨fun v1 hv1 => ?_, ?_⟩; (· (go_simp; rfl)); simp only [Act.put, sA, sB, sC]
 refine rV Later.pre 1 rfl rfl ?_; apply Exists.intro; refine ⟨fun v1 hv1 => ?_, ?_⟩; (· (go_simp; rfl)); simp only [Act.put, sA, sB, sC]
 refine rV Later.pre 2 rfl rfl ?_; apply Exists.intro; refine ⟨fun v1 hv1 => ?_, ?_⟩; (· (go_simp; rfl)); simp only [Act.put, sA, sB, sC]
 refine anyR_take Later.pre 3 (.agg #[.int .u8 17, .int .u32 qd, .int .u32 qs, .int .u16 qb, .int .u16 qa]) rfl (by kernel_rfl) (by kernel_rfl) (by kernel_rfl) (fun _ _ _ h => h) rfl (fun u hu => goes_call 109 #[.agg #[.int .u8 17, .int .u32 qs, .int .u32 qd, .int .u16 qa, .int .u16 qb]] (by go_simp) (reverse_any 17 qs qd qa qb u)) ?_
 simp only [Act.put, sA, sB, sC]
 refine anyR_take Later.pre 4 (.tuple #[.pointer (some ⟨f.blk, 0, none⟩), .bool true, .bool true]) rfl (by kernel_rfl) (by kernel_rfl) (by kernel_rfl) (fun _ _ _ h => h) rfl (fun u hu => goes_call 33 #[.pointer (some ⟨g, 0, none⟩), .agg #[.int .u8 17, .int .u32 qd, .int .u32 qs, .int .u16 qb, .int .u16 qa]] (by go_simp) (HLU.out u (l0.trans (L13.trans (hV0.trans hu))))) ?_
 simp only [Act.put, sA, sB, sC]
 refine rV Later.pre 5 rfl rfl ?_; apply Exists.intro; refine ⟨fun v1 hv1 => ?_, ?_⟩; (· (go_simp; rfl)); simp only [Act.put, sA, sB, sC]
 refine rV Later.pre 6 rfl rfl ?_; apply Exists.intro; refine ⟨fun v1 hv1 => ?_, ?_⟩; (· (go_simp; rfl)); simp only [Act.put, sA, sB, sC]
 refine rV Later.pre 7 rfl rfl ?_; apply Exists.intro; refine ⟨fun v1 hv1 => ?_, ?_⟩; (· (go_simp; rfl)); simp only [Act.put, sA, sB, sC]
 refine rV Later.pre 8 rfl rfl ?_; apply Exists.intro; refine ⟨fun v1 hv1 => ?_, ?_⟩; (· (go_simp; rfl)); simp only [Act.put, sA, sB, sC]
 refine rV Later.pre 9 rfl rfl ?_; apply Exists.intro; refine ⟨fun v1 hv1 => ?_, ?_⟩; (· (go_simp; rfl)); simp only [Act.put, sA, sB, sC]
 refine rV Later.pre 10 rfl rfl ?_; apply Exists.intro; refine ⟨fun v1 hv1 => ?_, ?_⟩; (· (go_simp; rfl)); simp only [Act.put, sA, sB, sC]
 refine rV Later.pre 11 rfl rfl ?_; apply Exists.intro; refine ⟨fun v1 hv1 => ?_, ?_⟩; (· (go_simp; rfl)); simp only [Act.put, sA, sB, sC]
 clear q0 q1
 refine anyR_done (by kernel_rfl) (fun V1 hV1 => ?_)
 have L4 : Later w1 V1 := L13.trans (hV0.trans hV1)
 have L04 : Later w V1 := l0.trans L4
 have D0 := hide (later_keep L4 C0.out)
 have D1 := hide (later_keep L4 C1.out)
 have k0 := block_cell D0.out
 clear C0 C1 X3 hV0 hV1 L13 HLU hg3
 go_wp2_with fail
 refine (comes_pr g tos id ttl 1 src dst keep (.slice soa zo.length soc) (.slice sda zd.length sdc) 1 true f V1 (HFB.out V1 L04) HSD.out (.inl ⟨rfl, rfl⟩)).mono ?_
 rintro e w5 ⟨rfl, l5⟩
 go_wp2_with fail
 refine (grefuse_no 3 _).mono ?_
 rintro e w6 ⟨rfl, hw6⟩
 subst hw6
 clear k0
 have HOT := hide (other_bk f w5 (HFB.out w5 (L04.trans l5)))
 rw [HPO.out] at HOT
 go_wp2_with fail
 refine HOT.out.mono ?_
 rintro e w7 ⟨rfl, l7⟩
 have la := later_allocG w7 (.cells #[.int .u8 17, .int .u32 f.o.src, .int .u32 f.o.dst, .int .u16 f.o.sp, .int .u16 f.o.dp] 68)
 have X8 := hide (heap_alloc_new w7 (.cells #[.int .u8 17, .int .u32 f.o.src, .int .u32 f.o.dst, .int .u16 f.o.sp, .int .u16 f.o.dp] 68))
 have L48 : Later V1 (w7.alloc (.cells #[.int .u8 17, .int .u32 f.o.src, .int .u32 f.o.dst, .int .u16 f.o.sp, .int .u16 f.o.dp] 68)) := l5.trans (l7.trans la)
 clear la l5 l7 HOT
 go_upto_region 6 with fail
 change Code.wp _ _ _ _ (w7.alloc (.cells #[.int .u8 17, .int .u32 f.o.src, .int .u32 f.o.dst, .int .u16 f.o.sp, .int .u16 f.o.dp] 68))
 generalize w7.alloc (.cells #[.int .u8 17, .int .u32 f.o.src, .int .u32 f.o.dst, .int .u16 f.o.sp, .int .u16 f.o.dp] 68) = w8 at *
 have k0 := block_cell (later_keep L48 D0.out)
 have k8 := block_cell X8.out
 have L08 : Later w w8 := L04.trans L48
 go_wp2_with fail
 refine (HRW.out w8 L08).mono ?_
 rintro e w9 ⟨l9, ⟨hx, _⟩ | ⟨_, ao, co, ad, cd, rfl, hO, hD⟩⟩
 ·exact absurd HQE.out hx
 have l9' : Later w8 w9 := l9
 clear k0 k8 l9 HRW
 have la := later_allocG w9 (.cells #[.int .u8 tos, .int .u16 id, .bool keep, .int .u8 ttl, .int .u8 1, .int .u32 src, .int .u32 f.o.src, .slice ao zo.length co, .slice ad nd cd] 56)
 have X10 := hide (heap_alloc_new w9 (.cells #[.int .u8 tos, .int .u16 id, .bool keep, .int .u8 ttl, .int .u8 1, .int .u32 src, .int .u32 f.o.src, .slice ao zo.length co, .slice ad nd cd] 56))
 have L10 : Later V1 (w9.alloc (.cells #[.int .u8 tos, .int .u16 id, .bool keep, .int .u8 ttl, .int .u8 1, .int .u32 src, .int .u32 f.o.src, .slice ao zo.length co, .slice ad nd cd] 56)) := L48.trans (l9'.trans la)
 have O10 := hide ((hO.mono L08.size).later la)
 have Q10 := hide ((hD.mono L08.size).later la)
 clear la hO hD l9'
 go_upto_region 10 with fail
 change Code.wp _ _ _ _ (w9.alloc (.cells #[.int .u8 tos, .int .u16 id, .bool keep, .int .u8 ttl, .int .u8 1, .int .u32 src, .int .u32 f.o.src, .slice ao zo.length co, .slice ad nd cd] 56))
 generalize w9.alloc (.cells #[.int .u8 tos, .int .u16 id, .bool keep, .int .u8 ttl, .int .u8 1, .int .u32 src, .int .u32 f.o.src, .slice ao zo.length co, .slice ad nd cd] 56) = w10 at *
 have kp := block_cell X10.out
 have E1 := later_keep L10 D1.out
 have kr := block_cell E1
 have fr := block_frozen E1
 go_wp2_with fail
 generalize hV : (((((((((w10.setCell ⟨_, 0, none⟩ _).setCell ⟨_, 1, none⟩ _).setCell ⟨_, 2, none⟩ _).setCell ⟨_, 3, none⟩ _).setCell ⟨_, 4, none⟩ _).setCell ⟨_, 5, none⟩ _).setCell ⟨_, 6, none⟩ _).setCell ⟨_, 7, none⟩ _).setCell ⟨_, 8, none⟩ _) = V8
 have hV9 : V8 = putRow w10 (gx + 1) 0 [.int .u8 tos, .int .u16 id, .bool keep, .int .u8 ttl, .int .u8 1, .int .u32 src, .int .u32 f.o.src, .slice ao zo.length co, .slice ad nd cd] := hV.symm
 have hb8 : But (fun b => b = gx + 1) w10 V8 := by rw [hV9]; exact putRow_but (E := fun b => b = gx + 1) (n := gx + 1) rfl _ _ _ _ (But.refl _ _)
 have p8 := putRow_all [.int .u8 tos, .int .u16 id, .bool keep, .int .u8 ttl, .int .u8 1, .int .u32 src, .int .u32 f.o.src, .slice ao zo.length co, .slice ad nd cd] E1 rfl
 rw [← hV9] at p8
 clear hV hV9 kr fr kp
 have P8 := block_cell p8
 have L010 : Later w w10 := L04.trans L10
 have hl8 : Later w V8 := Below.trans L010 (hb8.below L010.size (fun k hk e => by have e' : k = gx + 1 := e; omega))
 have o8 := O10.out.aside E1 (by decide) hb8
 have q8 := Q10.out.aside E1 (by decide) hb8
 exact bodyPost_ret (v := .agg #[.int .u8 tos, .int .u16 id, .bool keep, .int .u8 ttl, .int .u8 1, .int .u32 src, .int .u32 f.o.src, .slice ao zo.length co, .slice ad nd cd]) (by simp [results, Tryz.results107, go_sem, P8]) rfl ⟨ao, co, ad, cd, nd, HND.out, rfl, hl8, o8, q8⟩
set_option maxRecDepth 100000 in
set_option maxHeartbeats 8000000 in
theorem changed_err (base g n0 : Nat) (s : Gf) (f : Fl) (tos id ttl src dst : Int) (keep : Bool) (so sd : Value) (zo zd : List Int) (qs qd qa qb : Int) (w : World) (h : GF base w g s) (hE : Erb s f zo zd qs qd qa qb) (hT : Tb w) (hBo : Mt.By zo) (hBd : Mt.By zd) (hOo : Ow n0 w so zo) (hOd : Ow n0 w sd zd) (hlo : zo.length ≤ 60000) (hld : zd.length ≤ 70000) (ht : 0 ≤ tos ∧ tos ≤ 255) (hid : 0 ≤ id ∧ id ≤ 65535) (htl : 0 ≤ ttl ∧ ttl ≤ 255) (hsr : 0 ≤ src ∧ src ≤ 4294967295) (hds : 0 ≤ dst ∧ dst ≤ 4294967295) (he : ofe 1 src dst zd = 12) :
  Calls Tryz.prog 57 #[.agg #[.pointer (some ⟨g, 0, none⟩), .int .u8 tos, .int .u16 id, .bool keep, .int .u8 ttl, .int .u8 1, .int .u32 src, .int .u32 dst, so, sd, .int .i64 1]] w fun e w' => RqQ w w' f tos id ttl src keep zo zd e := by
 obtain ⟨l0, c0, c1⟩ := alloc2 w (.cells #[.pointer (some ⟨g, 0, none⟩), .int .u8 tos, .int .u16 id, .bool keep, .int .u8 ttl, .int .u8 1, .int .u32 src, .int .u32 dst, so, sd, .int .i64 1] 149) (.cells #[.int .u8 0, .int .u16 0, .bool false, .int .u8 0, .int .u8 0, .int .u32 0, .int .u32 0, .slice none 0 0, .slice none 0 0] 56)
 have C0 := hide c0
 have C1 := hide c1
 have HQ := hide (fun W (l : Later w W) => of_any tos id ttl 1 src dst keep so sd zd W (hT.later l) hBd ((hOd.later l).rd) (by omega) hsr hds)
 rw [he, show otv 12 1 src dst (ofa 1 zd) (ofb 1 zd) = .agg #[.int .u8 0, .int .u32 0, .int .u32 0, .int .u16 0, .int .u16 0] from by unfold otv; rw [if_neg (by decide)]] at HQ
 have HRQ := hide (fun W (l : Later w W) => requoted_yes base g s f tos id ttl src dst keep so sd zo zd qs qd qa qb W (h.later l) hE (hT.later l) hBo hBd ((hOo.later l).rd) ((hOd.later l).rd) hlo hld ht hid htl hsr)
 obtain ⟨sox, soc, rfl, _, _⟩ := hOo.slice
 obtain ⟨sdx, sdc, rfl, _, _⟩ := hOd.slice
 clear c0 c1 hT hBo hBd hOo hOd hE he h
 go_enter Tryz.func57, Tryz.ntmps57
 go_upto_region 1 with fail
 generalize (w.alloc (.cells _ 149)).alloc (.cells _ 56) = w1 at *
 generalize hgx : w.heap.size = gx at C0 C1 ⊢
 have k0 := block_cell C0.out
 go_wp2_with fail
 refine (HQ.out w1 l0).mono ?_
 rintro e w2 ⟨l2, rfl⟩
 have l2' : Later w1 w2 := l2
 clear k0 HQ l2
 have la := later_allocG w2 (.cells #[.int .u8 0, .int .u32 0, .int .u32 0, .int .u16 0, .int .u16 0] 68)
 have L13 : Later w1 (w2.alloc (.cells #[.int .u8 0, .int .u32 0, .int .u32 0, .int .u16 0, .int .u16 0] 68)) := l2'.trans la
 clear la l2'
 go_upto_region 2 with fail
 change Code.wp _ _ _ _ (w2.alloc (.cells #[.int .u8 0, .int .u32 0, .int .u32 0, .int .u16 0, .int .u16 0] 68))
 generalize w2.alloc (.cells #[.int .u8 0, .int .u32 0, .int .u32 0, .int .u16 0, .int .u16 0] 68) = w3 at *
 have k0 := block_cell (later_keep L13 C0.out)
 have L3 : Later w w3 := l0.trans L13
 go_wp2_with fail
 refine (HRQ.out w3 L3).mono ?_
 rintro e w4 ⟨ao, co, ad, cd, nd, hnd, rfl, l4, hO, hD⟩
 have HND := hide hnd
 clear hnd
 clear k0 HRQ
 have E1 := later_keep (L13.trans l4) C1.out
 have kr := block_cell E1
 have fr := block_frozen E1
 have O4 := hide (hO.mono L3.size)
 have Q4 := hide (hD.mono L3.size)
 have L4 : Later w w4 := L3.trans l4
 clear hO hD
 go_wp2_with fail
 generalize hV : (((((((((w4.setCell ⟨_, 0, none⟩ _).setCell ⟨_, 1, none⟩ _).setCell ⟨_, 2, none⟩ _).setCell ⟨_, 3, none⟩ _).setCell ⟨_, 4, none⟩ _).setCell ⟨_, 5, none⟩ _).setCell ⟨_, 6, none⟩ _).setCell ⟨_, 7, none⟩ _).setCell ⟨_, 8, none⟩ _) = V8
 have hV9 : V8 = putRow w4 (gx + 1) 0 [.int .u8 tos, .int .u16 id, .bool keep, .int .u8 ttl, .int .u8 1, .int .u32 src, .int .u32 f.o.src, .slice ao zo.length co, .slice ad nd cd] := hV.symm
 have hb8 : But (fun b => b = gx + 1) w4 V8 := by rw [hV9]; exact putRow_but (E := fun b => b = gx + 1) (n := gx + 1) rfl _ _ _ _ (But.refl _ _)
 have p8 := putRow_all [.int .u8 tos, .int .u16 id, .bool keep, .int .u8 ttl, .int .u8 1, .int .u32 src, .int .u32 f.o.src, .slice ao zo.length co, .slice ad nd cd] E1 rfl
 rw [← hV9] at p8
 clear hV hV9 kr fr
 have P8 := block_cell p8
 have hl8 : Later w V8 := Below.trans L4 (hb8.below L4.size (fun k hk e => by have e' : k = gx + 1 := e; omega))
 have o8 := O4.out.aside E1 (by decide) hb8
 have q8 := Q4.out.aside E1 (by decide) hb8
 exact bodyPost_ret (v := .agg #[.int .u8 tos, .int .u16 id, .bool keep, .int .u8 ttl, .int .u8 1, .int .u32 src, .int .u32 f.o.src, .slice ao zo.length co, .slice ad nd cd]) (by simp [results, Tryz.results57, go_sem, P8]) rfl ⟨ao, co, ad, cd, nd, HND.out, rfl, hl8, o8, q8⟩
def erB (tos id ttl src : Int) (keep : Bool) (zo zd : List Int) (t : Tu) : List Int := hdr tos id keep (ttl - 1) 1 src t.src zo (20 + zo.length + (8 + (zd.drop 8).length : Nat)) ++ icm (zd[0]?.getD 0) (zd[1]?.getD 0) (wat4 zd 4) (rqt (qun (zd.drop 8) t.src t.dst t.sp t.dp) (zd.drop 8))
def HeQ (base : Nat) (w w' : World) (g : Nat) (s : Gf) (f : Fl) (zs : List Int) (e : Ending) : Prop := ∃ v : Value, e = .returned (.agg #[.int .i64 0, .int .i64 0, v]) ∧ KG base w w' ∧ GF base w' g s ∧ Ow w.heap.size w' v (erB (zs[1]?.getD 0) (wat zs 4) (zs[8]?.getD 0) (wat4 zs 12) (decide (16384 ≤ wat zs 6 % 32768)) ((zs.take (hl4 zs).toNat).drop 20) ((zs.take (ral false zs).toNat).drop (hl4 zs).toNat) f.o)
set_option maxRecDepth 100000 in
set_option maxHeartbeats 8000000 in
theorem handle_err (base g : Nat) (s : Gf) (f : Fl) (sb : Value) (zs : List Int) (qs qd qa qb : Int) (w : World) (h : GF base w g s) (hB : Mt.By zs) (hI : Rd w.heap.size w sb zs) (hl : zs.length ≤ 60000)
  (hp : rde false zs = 0) (hpr : zs[9]?.getD 0 = 1) (htt : (2 : Int) ≤ zs[8]?.getD 0) (hR : Erb s f ((zs.take (hl4 zs).toNat).drop 20) ((zs.take (ral false zs).toNat).drop (hl4 zs).toNat) qs qd qa qb) (he : ofe 1 (wat4 zs 12) (wat4 zs 16) ((zs.take (ral false zs).toNat).drop (hl4 zs).toNat) = 12) (hlo : ((zs.take (hl4 zs).toNat).drop 20).length ≤ 40) (hlm : ((zs.take (hl4 zs).toNat).drop 20).length % 4 = 0) (hall : 20 + ((zs.take (hl4 zs).toNat).drop 20).length + ((zs.take (ral false zs).toNat).drop (hl4 zs).toNat).length ≤ 65535) (h8 : 8 ≤ ((zs.take (ral false zs).toNat).drop (hl4 zs).toNat).length)
  (hbs : base ≤ w.heap.size) (hz : ∀ W, KG base w W → Tb W) :
  Calls Tryz.prog 25 #[.pointer (some ⟨g, 0, none⟩), .int .i64 1, sb] w fun e w' => HeQ base w w' g s f zs e := by
 unfold HeQ
 have hmf : ∀ (fn : Fn) (first cap : Array Value) (w : World), (Instr.makeFunc fn first cap).run Tryz.prog w = .ok (.func fn first cap) w := fun _ _ _ _ => rfl
 obtain ⟨ia, icap, rfl, hl1, hm1⟩ := hI.slice
 have l0 := later_allocG w (.cells (oc 0).toArray 40)
 have C0 := hide (heap_alloc_new w (.cells (oc 0).toArray 40))
 have HP := hide (parse_any _ zs _ hB (by omega) (hI.later l0))
 have HG := hide h
 have bt := hB.at 1
 have bl := hB.at 8
 have bi : 0 ≤ wat zs 4 ∧ wat zs 4 ≤ 65535 := wat_bd hB 4
 have b12 := wat4D hB 12
 have b16 := wat4D hB 16
 have hBd : Mt.By ((zs.take (ral false zs).toNat).drop (hl4 zs).toNat) := (hB.take _).drop _
 have hBo : Mt.By ((zs.take (hl4 zs).toNat).drop 20) := (hB.take _).drop _
 clear h hI
 go_enter_defers Tryz.func25, Tryz.ntmps25
 go_wp2_with fail
 change Calls _ _ _ (w.alloc (.cells (oc 0).toArray 40)) _
 generalize hw1 : w.alloc (.cells (oc 0).toArray 40) = w1 at *
 clear hw1
 refine HP.out.mono ?_
 rintro e w2 ⟨l2, ⟨h1, rfl⟩ | ⟨h1, so, sd, rfl, hOo, hOd⟩⟩
 ·exact absurd hp h1
 clear h1 HP hp
 have l2' : Later w1 w2 := l2
 obtain ⟨oa, ocp, rfl, _, _⟩ := hOo.slice
 obtain ⟨da, dcp, rfl, _, _⟩ := hOd.slice
 have hld : ((zs.take (ral false zs).toNat).drop (hl4 zs).toNat).length ≤ 65535 := by omega
 generalize hzd : ((zs.take (ral false zs).toNat).drop (hl4 zs).toNat) = zd at *
 generalize hzo : ((zs.take (hl4 zs).toNat).drop 20) = zo at *
 unfold pkt
 rw [hpr]
 generalize htos : zs[1]?.getD 0 = tos at *
 generalize hidd : wat zs 4 = id at *
 generalize hkp : decide (16384 ≤ wat zs 6 % 32768) = keep at *
 generalize httl : zs[8]?.getD 0 = ttl at *
 clear hpr
 generalize hsrc : wat4 zs 12 = src at *
 generalize hdst : wat4 zs 16 = dst at *
 have EQS := hide (show (((zs[1]?.getD 0 = tos ∧ wat zs 4 = id) ∧ decide (16384 ≤ wat zs 6 % 32768) = keep) ∧ zs[8]?.getD 0 = ttl) ∧ (wat4 zs 12 = src ∧ wat4 zs 16 = dst) ∧ ((zs.take (ral false zs).toNat).drop (hl4 zs).toNat) = zd ∧ ((zs.take (hl4 zs).toNat).drop 20) = zo from ⟨⟨⟨⟨htos, hidd⟩, hkp⟩, httl⟩, ⟨hsrc, hdst⟩, hzd, hzo⟩)
 clear htos hidd hkp httl hsrc hdst hzd hzo
 have la := later_allocG w2 (.cells #[.int .u8 tos, .int .u16 id, .bool keep, .int .u8 ttl, .int .u8 1, .int .u32 src, .int .u32 dst, .slice oa zo.length ocp, .slice da zd.length dcp] 56)
 have CP := hide (heap_alloc_new w2 (.cells #[.int .u8 tos, .int .u16 id, .bool keep, .int .u8 ttl, .int .u8 1, .int .u32 src, .int .u32 dst, .slice oa zo.length ocp, .slice da zd.length dcp] 56))
 have D0 := hide (later_keep (l2'.trans la) C0.out)
 have L3 : Later w (w2.alloc (.cells #[.int .u8 tos, .int .u16 id, .bool keep, .int .u8 ttl, .int .u8 1, .int .u32 src, .int .u32 dst, .slice oa zo.length ocp, .slice da zd.length dcp] 56)) := l0.trans (l2'.trans la)
 have O3 := hide (hOo.kg (KG.of_later (base := base) la))
 have Q3 := hide (hOd.kg (KG.of_later (base := base) la))
 have hgp : w1.heap.size ≤ w2.heap.size := l2'.size
 have hg1 := (bl9 C0.out)
 clear hOo hOd la l2 l2'
 go_upto_region 3 with fail
 change Code.wp _ _ _ _ (w2.alloc (.cells #[.int .u8 tos, .int .u16 id, .bool keep, .int .u8 ttl, .int .u8 1, .int .u32 src, .int .u32 dst, .slice oa zo.length ocp, .slice da zd.length dcp] 56))
 generalize w2.alloc (.cells #[.int .u8 tos, .int .u16 id, .bool keep, .int .u8 ttl, .int .u8 1, .int .u32 src, .int .u32 dst, .slice oa zo.length ocp, .slice da zd.length dcp] 56) = w3 at *
 generalize w2.heap.size = gp at *
 have H3 := hide (HG.out.later L3)
 have HCH := hide (changed_err base g w1.heap.size s f tos id ttl src dst keep (.slice oa zo.length ocp) (.slice da zd.length dcp) zo zd qs qd qa qb w3 H3.out hR (hz w3 (KG.of_later L3)) hBo hBd O3.out Q3.out (by omega) (by omega) bt bi bl b12 b16 he)
 have HEQ := hide (show (zd.drop 8).length = zd.length - 8 from List.length_drop)
 have btt := b12
 have bdd := hR.hBo.1
 generalize hqs : f.o.src = qsrc at *
 have HQS := hide hqs
 clear hqs
 clear he hz O3 Q3 HG hR C0
 have kp := block_cell CP.out
 have ht2 : ¬ ttl < 2 := by omega
 go_wp2_with fail
 refine (grefuse_no 1 _).mono ?_
 rintro e w4 ⟨rfl, hw4⟩
 subst hw4
 go_wp2_with fail
 refine HCH.out.mono ?_
 rintro e w4 ⟨ao, co, ad, cd, nd, hnd, rfl, l4, o4, q4⟩
 have k4 : KG base w3 w4 := KG.of_later l4
 have hG4 := H3.out.later l4
 rw [HQS.out] at q4
 have HND := hide hnd
 have hn65 : 20 + zo.length + nd ≤ 65535 := by have := HEQ.out; omega
 rw [HQS.out]
 generalize hic : icm (zd[0]?.getD 0) (zd[1]?.getD 0) (wat4 zd 4) (rqt (qun (zd.drop 8) qsrc f.o.dst f.o.sp f.o.dp) (zd.drop 8)) = ic at *
 have HIC := hide hic
 clear hic hnd l4
 clear kp HCH
 have K4 : KG base w w4 := (KG.of_later L3).trans k4
 have E0 := hide (k4.cells D0.out (by decide))
 have EP := hide (k4.cells CP.out (by decide))
 have G4 := hide hG4
 have o4' := hide (o4.mono L3.size)
 have q4' := hide (q4.mono L3.size)
 clear H3 D0 CP hG4 o4 q4 k4
 have kp := block_cell EP.out
 have fp := block_frozen EP.out
 go_upto_region 5 with fail
 generalize hV : (((((((((w4.setCell ⟨_, 0, none⟩ _).setCell ⟨_, 1, none⟩ _).setCell ⟨_, 2, none⟩ _).setCell ⟨_, 3, none⟩ _).setCell ⟨_, 4, none⟩ _).setCell ⟨_, 5, none⟩ _).setCell ⟨_, 6, none⟩ _).setCell ⟨_, 7, none⟩ _).setCell ⟨_, 8, none⟩ _) = w5
 have hV9 : w5 = putRow w4 gp 0 [.int .u8 tos, .int .u16 id, .bool keep, .int .u8 ttl, .int .u8 1, .int .u32 src, .int .u32 qsrc, .slice ao zo.length co, .slice ad nd cd] := hV.symm
 have hb5 : But (fun b => b = gp) w4 w5 := by rw [hV9]; exact putRow_but (E := fun b => b = gp) (n := gp) rfl _ _ _ _ (But.refl _ _)
 have p5 := putRow_all [.int .u8 tos, .int .u16 id, .bool keep, .int .u8 ttl, .int .u8 1, .int .u32 src, .int .u32 qsrc, .slice ao zo.length co, .slice ad nd cd] EP.out rfl
 rw [← hV9] at p5
 clear hV hV9 kp fp
 have G5 := hide (G4.out.other (TE.one EP.out) hb5 (by decide))
 have O5 := hide (o4'.out.aside EP.out (by decide) hb5)
 have Q5 := hide (q4'.out.aside EP.out (by decide) hb5)
 have K5 : Hid (KG base w w5) := K4.own hb5 (by omega)
 have F0 := hide ((hb5.block w.heap.size (bl9 E0.out) (fun e => by have e' : w.heap.size = gp := e; omega)).trans E0.out)
 have FP := hide p5
 clear G4 o4' q4' K4 E0 EP hb5 p5
 have kp := block_cell FP.out
 have fp := block_frozen FP.out
 have P6 := hide (heap_set1 FP.out 3 (.int .u8 (ttl - 1)))
 have hb6 : But (fun b => b = gp) w5 (w5.setCell ⟨gp, 3, none⟩ (.int .u8 (ttl - 1))) := (But.refl (fun b => b = gp) w5).setCell (p := ⟨gp, 3, none⟩) (show _ = _ from rfl) _
 have HB6 := hide hb6
 clear hb6
 go_upto_region 6 with fail
 have hQ6 : (w5.setCell ⟨gp, 3, none⟩ (.int .u8 (ttl - 1))).heap[gp]? = some (.cells #[.int .u8 tos, .int .u16 id, .bool keep, .int .u8 (ttl - 1), .int .u8 1, .int .u32 src, .int .u32 qsrc, .slice ao zo.length co, .slice ad nd cd] 56 (0, 0)) := P6.out
 have G6 := hide (G5.out.other (TE.one FP.out) HB6.out (by decide))
 have o6 := O5.out.aside FP.out (by decide) HB6.out
 have q6 := Q5.out.aside FP.out (by decide) HB6.out
 have O6 := hide o6
 have Q6 := hide q6
 have K6 := hide (K5.out.own HB6.out (by omega))
 have F6 := hide ((HB6.out.block w.heap.size (bl9 F0.out) (fun e => by have e' : w.heap.size = gp := e; omega)).trans F0.out)
 have FQ6 := hide hQ6
 have hrl : ic.length = nd := by
  obtain ⟨_, _, e, _, _⟩ := q6.slice
  injection e with e1 e2 e3
  exact e2.symm
 have HRL := hide hrl
 clear o6 q6 hQ6 hrl kp fp G5 O5 Q5 K5 F0 FP P6 HB6
 generalize w5.setCell ⟨gp, 3, none⟩ (.int .u8 (ttl - 1)) = w6 at *
 have HBU := hide (build_yes tos id (ttl - 1) 1 src qsrc keep (.slice ao zo.length co) (.slice ad nd cd) zo ic w6 hBo O6.out.rd Q6.out.rd hlo hlm (by rw [HRL.out]; exact hn65) bt bi (by omega) (by decide) btt bdd)
 rw [HRL.out] at HBU
 have k6 := block_cell FQ6.out
 clear hall hlm hlo hn65
 go_wp2_with fail
 refine HBU.out.mono ?_
 rintro e w7 ⟨v, rfl, hO7, l7⟩
 have l7' : Later w6 w7 := l7
 obtain ⟨va, vc, rfl, _, _⟩ := hO7.slice
 have F7 := hide (later_keep l7' F6.out)
 have G7 := hide (G6.out.later l7')
 have K7 := hide (K6.out.trans (KG.of_later l7'))
 have O7 := hide (hO7.mono K6.out.size)
 clear k6 HBU l7 l7' hO7 F6 G6 K6 O6 Q6 FQ6
 generalize hob : hdr tos id keep (ttl - 1) 1 src qsrc zo (20 + zo.length + nd) ++ ic = ob at *
 have HOB := hide hob
 clear hob
 go_wp2_with fail
 refine (opp_any 1 (.inr rfl) w7).mono ?_
 rintro e w8 ⟨rfl, hw8⟩
 subst hw8
 have k0 := block_cell F7.out
 have f0 := block_frozen F7.out
 unfold oc at k0
 go_wp2_with fail
 generalize hV : (((w8.setCell ⟨_, 0, none⟩ _).setCell ⟨_, 1, none⟩ _).setCell ⟨_, 2, none⟩ _) = V8
 have hV9 : V8 = putRow w8 w.heap.size 0 [.int .i64 0, .int .i64 0, .slice va ob.length vc] := hV.symm
 have hb8 : But (fun b => b = w.heap.size) w8 V8 := by rw [hV9]; exact putRow_but (E := fun b => b = w.heap.size) (n := w.heap.size) rfl _ _ _ _ (But.refl _ _)
 have p8 := putRow_all [.int .i64 0, .int .i64 0, .slice va ob.length vc] F7.out rfl
 rw [← hV9] at p8
 clear hV hV9 k0 f0
 have h8' := G7.out.other (TE.one F7.out) hb8 (by decide)
 have o8 := O7.out.aside F7.out (by decide) hb8
 have k8 := K7.out.own hb8 (Nat.le_refl _)
 refine gdoor_idle _ w.heap.size _ _ _ V8 p8 rfl ⟨.slice va ob.length vc, rfl, k8, h8', ?_⟩
 obtain ⟨⟨⟨⟨q1, q2⟩, q3⟩, q4⟩, ⟨q5, q6⟩, q7, q8⟩ := EQS.out
 unfold erB
 rw [q1, q2, q3, q4, q5, q7, q8, HQS.out, HIC.out, ← HND.out]
 have hob := HOB.out
 rw [hob]
 exact o8
theorem Erb.ltr {s : Gf} {f : Fl} {zo zd : List Int} {qs qd qa qb : Int} (h : Erb s f zo zd qs qd qa qb) {n : Int} (v : Value) : Erb (ltr s n v) f zo zd qs qd qa qb := ⟨h.hf, h.hu, h.kx, h.hs, h.hd, h.ha, h.hb, h.bq, h.sd, h.hBo, h.po, h.qu, h.qv, h.qp, h.fl⟩
def PeQ (base : Nat) (w w' : World) (g : Nat) (s : Gf) (f : Fl) (zs : List Int) (e : Ending) : Prop := ∃ (n : Int) (v2 v : Value), e = .returned (.agg #[.int .i64 0, .int .i64 0, v]) ∧ KG base w w' ∧ GF base w' g (ltr s n v2) ∧ Ow w.heap.size w' v (erB (zs[1]?.getD 0) (wat zs 4) (zs[8]?.getD 0) (wat4 zs 12) (decide (16384 ≤ wat zs 6 % 32768)) ((zs.take (hl4 zs).toNat).drop 20) ((zs.take (ral false zs).toNat).drop (hl4 zs).toNat) f.o)
set_option maxRecDepth 100000 in
set_option maxHeartbeats 8000000 in
theorem packet_err (base g n0 : Nat) (s : Gf) (f : Fl) (nw : Int) (sb : Value) (zs : List Int) (qs qd qa qb : Int) (w : World) (h : GF base w g s) (hbs : base ≤ w.heap.size) (hB : Mt.By zs) (hI : Ow n0 w sb zs) (hl : zs.length ≤ 60000)
  (hp : rde false zs = 0) (hpr : zs[9]?.getD 0 = 1) (htt : (2 : Int) ≤ zs[8]?.getD 0) (hR : Erb s f ((zs.take (hl4 zs).toNat).drop 20) ((zs.take (ral false zs).toNat).drop (hl4 zs).toNat) qs qd qa qb) (he : ofe 1 (wat4 zs 12) (wat4 zs 16) ((zs.take (ral false zs).toNat).drop (hl4 zs).toNat) = 12) (hlo : ((zs.take (hl4 zs).toNat).drop 20).length ≤ 40) (hlm : ((zs.take (hl4 zs).toNat).drop 20).length % 4 = 0) (hall : 20 + ((zs.take (hl4 zs).toNat).drop 20).length + ((zs.take (ral false zs).toNat).drop (hl4 zs).toNat).length ≤ 65535) (h8 : 8 ≤ ((zs.take (ral false zs).toNat).drop (hl4 zs).toNat).length)
  (hnw0 : 0 ≤ s.now ∧ s.now ≤ 549755813888) (hex : s.ex = []) (hdu : ∀ n, n ≤ nw ∨ n ≤ s.now → duR n (allR s.rw) = []) (hal : (allR s.rw).length ≤ 5000) (hz : ∀ W, KG base w W → Tb W) :
  Calls Tryz.prog 8 #[.pointer (some ⟨g, 0, none⟩), .int .i64 nw, .int .i64 1, sb] w fun e w' => PeQ base w w' g s f zs e := by
 obtain ⟨sa, sc, rfl, _, _⟩ := hI.slice
 have l0 := later_allocG w (.cells (oc 0).toArray 40)
 have C0 := hide (heap_alloc_new w (.cells (oc 0).toArray 40))
 have h1 := h.later l0
 have HH := hide (fun (W : World) (n : Int) (v : Value) (k : KG base w W) (hg : GF base W g (ltr s n v)) => handle_err base g (ltr s n v) f (.slice sa zs.length sc) zs qs qd qa qb W hg hB ((hI.kg k).rd) hl hp hpr htt (hR.ltr v) he hlo hlm hall h8 (Nat.le_trans hbs k.size) (fun V k2 => hz V (k.trans k2)))
 have HG := hide h
 have H1 := hide h1
 have HTK := hide (fun W (hg : GF base W g s) (hb : base ≤ W.heap.size) => tick_quiet base g s nw W hg hb hnw0 hex hdu hal)
 clear h h1 hB hI hl hp hpr htt hR he hlo hlm hall hz hex hdu hal h8
 go_enter Tryz.func8, Tryz.ntmps8
 go_upto_region 3 with fail
 change Code.wp _ _ _ _ (w.alloc (.cells (oc 0).toArray 40))
 generalize w.alloc (.cells (oc 0).toArray 40) = w1 at *
 generalize hgx : w.heap.size = gx at C0 ⊢
 have hs1 : base ≤ w1.heap.size := Nat.le_trans hbs l0.size
 go_wp2_with fail
 refine (HTK.out w1 H1.out hs1).mono ?_
 rintro e w2 ⟨rfl, M2, n, v2, hn, hnw, hns, h2⟩
 have K2 : KG base w w2 := (KG.of_later l0).trans (TqG.kg M2 H1.out)
 have D0 := hide ((TqG.kg M2 H1.out).cells C0.out (by decide))
 have HHN := hide (HH.out w2 n v2 K2 h2)
 have hgw : gx < w2.heap.size := (bl9 D0.out)
 clear M2 C0 H1 hs1 HH h2 HTK
 go_wp2_with fail
 refine HHN.out.mono ?_
 rintro e w3 ⟨v, rfl, k3, hG3, hO3⟩
 have E0 := hide (k3.cells D0.out (by decide))
 have G3 := hide hG3
 have O3 := hide (hO3.mono K2.size)
 have K3 : Hid (KG base w w3) := K2.trans k3
 obtain ⟨va, vc, eqv, _, _⟩ := hO3.slice
 obtain ⟨ln, rfl⟩ : ∃ ln, v = .slice va ln vc := ⟨_, eqv⟩
 clear eqv
 have k0 := block_cell E0.out
 have f0 := block_frozen E0.out
 clear HHN hG3 hO3 D0 k3
 go_wp2_with fail
 generalize hV : (((w3.setCell ⟨gx, 0, none⟩ _).setCell ⟨gx, 1, none⟩ _).setCell ⟨gx, 2, none⟩ _) = V8
 have hV9 : V8 = putRow w3 gx 0 [.int .i64 0, .int .i64 0, .slice va ln vc] := hV.symm
 have hb8 : But (fun b => b = gx) w3 V8 := by rw [hV9]; exact putRow_but (E := fun b => b = gx) (n := gx) rfl _ _ _ _ (But.refl _ _)
 have p8 := putRow_all [.int .i64 0, .int .i64 0, .slice va ln vc] E0.out rfl
 rw [← hV9] at p8
 clear hV hV9 k0 f0
 have P8 := block_cell p8
 have h8 := G3.out.other (TE.one E0.out) hb8 (by decide)
 have o8 := O3.out.aside E0.out (by decide) hb8
 have k8 := K3.out.own hb8 (by omega)
 exact bodyPost_ret (v := .agg #[.int .i64 0, .int .i64 0, .slice va ln vc]) (by simp [results, Tryz.results8, go_sem, P8]) rfl ⟨n, v2, .slice va ln vc, rfl, k8, h8, o8⟩
theorem Ow.apart {base mb : Nat} {W W' : World} {v : Value} {zs : List Int} {cur : Array Value} {t : TypeId} (h : Ow base W v zs) (hm : W.heap[mb]? = some (.cells cur t (0, 0))) (ht : t ≠ 5) (hb : But (fun b => b = mb) W W') : Ow base W' v zs := by
 rcases h with h | ⟨g, cap, c, h1, h2, h3, h4, h5, h6, h7⟩
 ·exact .inl h
 ·refine .inr ⟨g, cap, c, h1, h2, h3, h4, h5, (hb.block g (bl9 h6) (fun e => ?_)).trans h6, h7⟩
  subst e
  rw [hm] at h6
  simp at h6
  exact ht h6.2
end Go.Proofs.YtofknbfbmaefoaaGreatDoor
