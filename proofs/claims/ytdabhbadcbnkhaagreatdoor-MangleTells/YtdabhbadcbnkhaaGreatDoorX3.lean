/- Several texts in one. -/
import Derived.Test.YtdabhbadcbnkhaaGreatDoorX4
import Derived.Lib.AppendZeros
import Derived.Deep.Cut
import Derived.Test.YtdabhbadcbnkhaaGreatDoorRt
import Derived.Test.YtdabhbadcbnkhaaGreatDoorCA
import Derived.Test.YtdabhbadcbnkhaaGreatDoorX6
import Derived.Test.YtdabhbadcbnkhaaGreatDoorW9
import Derived.Test.YtdabhbadcbnkhaaGreatDoorVS
import Derived.Test.YtdabhbadcbnkhaaGreatDoorHd
import Derived.Laws.Cover3
/- Package mangle: a message that is quoted. -/
namespace Go.Proofs.YtdabhbadcbnkhaaGreatDoor
open Go.RowKit Go.Shelf
set_option maxRecDepth 100000
set_option linter.unusedVariables false
set_option linter.unusedSimpArgs false

/-- Nothing but the unit changes, and of it its bytes alone. -/
def UP (g : Nat) (u : Un) (w w' : World) : Prop := But (fun q => q = g) w w' ∧ ((∃ bv, UB w g u bv) → ∃ bv, UB w' g u bv)
theorem UP.pre (g : Nat) (u : Un) : Pre (UP g u) := ⟨fun w => ⟨But.refl _ _, id⟩, fun _ _ _ h k => ⟨h.1.trans k.1, fun x => k.2 (h.2 x)⟩⟩
theorem UP.of {g : Nat} {u : Un} {w w' : World} (l : Later w w') : UP g u w w' := ⟨But.of l, fun ⟨bv, h⟩ => ⟨bv, h.later l⟩⟩
set_option maxHeartbeats 4000000 in
theorem uqmessage_any (base : Nat) (g : Nat) (u : Un) (zs : List Int) (w : World) (hB : Mt.By zs) (h : UR w g u zs) (hb : base ≤ w.heap.size) (hl : zs.length ≤ 140737488355328) (h8 : 8 ≤ zs.length) (hu : UOk u) (hw : UOw u) :
    Calls Tryz.prog 90 #[.pointer (some ⟨g, 0, none⟩)] w fun e w' => UQ base w g u (qsI u zs) e w' := by
  obtain ⟨hs, hd, ha, hbb⟩ := hu
  obtain ⟨hs1, hd1, ha1, hb1⟩ := hw
  have H1 := hide (uput_any base g u zs 4 u.a w h hb hl ha)
  rw [putAt2_lit zs 4 4 u.a rfl (by omega)] at H1
  have hB1 := hB.put2 4 ha
  have hL1 := Mt.put2_length zs 4 u.a
  have HR : Hid (qsI u zs = putAt2 (Mt.put2 zs 4 u.a) 2 (ptv (getAt2 (Mt.put2 zs 4 u.a) 2) u.a1 u.a)) := rfl
  generalize Mt.put2 zs 4 u.a = z1 at *
  have hl1 : z1.length ≤ 140737488355328 := by omega
  clear hL1
  obtain ⟨bv, hU, _⟩ := id h
  have CU := block_cell hU
  simp only [unc] at CU
  go_enter Tryz.func90, Tryz.ntmps90
  go_wp2_with fail
  refine H1.out.mono ?_
  rintro e w1 ⟨rfl, S1, b1⟩
  clear CU hU
  have hg2 : 0 ≤ getAt2 z1 2 ∧ getAt2 z1 2 ≤ 65535 := by unfold getAt2; split; exact wat_bd hB1 _; omega
  have HGT := hide (fun v (h : UR v g u z1) => uget_any (n := 0) g u z1 hB1 2 v h)
  generalize getAt2 z1 2 = c2 at *
  go_upto_region 1 with fail
  refine anyT_begin (R := UP g u) 15 rfl (by kernel_rfl) ?_
  have hdr : Later w1 w1.drew := Later.drew w1
  have S2 := S1.later hdr
  have b2 : But (fun q => q = g) w w1.drew := b1.trans (But.of hdr)
  generalize w1.drew = w2 at *
  have S2' := hide S2
  obtain ⟨bv2, hU2, _⟩ := S2
  have q1 : ∀ v1, UP g u w2 v1 → v1.cell? ⟨g, 4, none⟩ = some (.int .u16 u.a1) ∧ v1.cell? ⟨g, 9, none⟩ = some (.int .u16 u.a) := fun v1 hv => by
    obtain ⟨bv, hx⟩ := hv.2 ⟨_, hU2⟩
    have k := block_cell hx
    exact ⟨k 4, k 9⟩
  have qa : ∀ v1, UP g u w2 v1 → v1.cell? ⟨g, 4, none⟩ = some (.int .u16 u.a1) := fun v1 h => (q1 v1 h).1
  have qb : ∀ v1, UP g u w2 v1 → v1.cell? ⟨g, 9, none⟩ = some (.int .u16 u.a) := fun v1 h => (q1 v1 h).2
  clear q1
  refine anyT_val (UP.pre g u) 0 rfl (by kernel_rfl) (by kernel_rfl) (by kernel_rfl) (fun _ _ _ _ h => h) rfl ?_; apply Exists.intro; refine ⟨fun v1 hv1 => ?_, ?_⟩; (· (go_simp; rfl)); simp only [Act.put, List.setIfInBounds_toArray, List.set_cons_zero, List.set_cons_succ]
  refine anyT_val (UP.pre g u) 1 rfl (by kernel_rfl) (by kernel_rfl) (by kernel_rfl) (fun _ _ _ _ h => h) rfl ?_; apply Exists.intro; refine ⟨fun v1 hv1 => ?_, ?_⟩; (· (go_simp; rfl)); simp only [Act.put, List.setIfInBounds_toArray, List.set_cons_zero, List.set_cons_succ]
  refine anyT_val (UP.pre g u) 3 rfl (by kernel_rfl) (by kernel_rfl) (by kernel_rfl) (fun _ _ _ _ h => h) rfl ?_; apply Exists.intro; refine ⟨fun v1 hv1 => ?_, ?_⟩; (· (go_simp; rfl)); simp only [Act.put, List.setIfInBounds_toArray, List.set_cons_zero, List.set_cons_succ]
  refine anyT_val (UP.pre g u) 4 rfl (by kernel_rfl) (by kernel_rfl) (by kernel_rfl) (fun _ _ _ _ h => h) rfl ?_; apply Exists.intro; refine ⟨fun v1 hv1 => ?_, ?_⟩; (· (go_simp; rfl)); simp only [Act.put, List.setIfInBounds_toArray, List.set_cons_zero, List.set_cons_succ]
  refine anyT_val (UP.pre g u) 5 rfl (by kernel_rfl) (by kernel_rfl) (by kernel_rfl) (fun _ _ _ _ h => h) rfl ?_; apply Exists.intro; refine ⟨fun v1 hv1 => ?_, ?_⟩; (· (go_simp; rfl)); simp only [Act.put, List.setIfInBounds_toArray, List.set_cons_zero, List.set_cons_succ]
  refine anyT_val (UP.pre g u) 6 rfl (by kernel_rfl) (by kernel_rfl) (by kernel_rfl) (fun _ _ _ _ h => h) rfl ?_; apply Exists.intro; refine ⟨fun v1 hv1 => ?_, ?_⟩; (· (go_simp; rfl)); simp only [Act.put, List.setIfInBounds_toArray, List.set_cons_zero, List.set_cons_succ]
  refine anyT_val (UP.pre g u) 7 rfl (by kernel_rfl) (by kernel_rfl) (by kernel_rfl) (fun _ _ _ _ h => h) rfl ?_; apply Exists.intro; refine ⟨fun v1 hv1 => ?_, ?_⟩; (· (go_simp; rfl)); simp only [Act.put, List.setIfInBounds_toArray, List.set_cons_zero, List.set_cons_succ]
  refine anyT_val (UP.pre g u) 8 rfl (by kernel_rfl) (by kernel_rfl) (by kernel_rfl) (fun _ _ _ _ h => h) rfl ?_; apply Exists.intro; refine ⟨fun v1 hv1 => ?_, ?_⟩; (· (go_simp; rfl)); simp only [Act.put, List.setIfInBounds_toArray, List.set_cons_zero, List.set_cons_succ]
  refine anyT_val (UP.pre g u) 9 rfl (by kernel_rfl) (by kernel_rfl) (by kernel_rfl) (fun _ _ _ _ h => h) rfl ?_; apply Exists.intro; refine ⟨fun v1 hv1 => ?_, ?_⟩; (· (go_simp; rfl)); simp only [Act.put, List.setIfInBounds_toArray, List.set_cons_zero, List.set_cons_succ]
  refine anyT_val (UP.pre g u) 10 rfl (by kernel_rfl) (by kernel_rfl) (by kernel_rfl) (fun _ _ _ _ h => h) rfl ?_; apply Exists.intro; refine ⟨fun v1 hv1 => ?_, ?_⟩; (· (go_simp; rfl)); simp only [Act.put, List.setIfInBounds_toArray, List.set_cons_zero, List.set_cons_succ]
  refine anyT_val (UP.pre g u) 11 rfl (by kernel_rfl) (by kernel_rfl) (by kernel_rfl) (fun _ _ _ _ h => h) rfl ?_; apply Exists.intro; refine ⟨fun v1 hv1 => ?_, ?_⟩; (· (go_simp; rfl)); simp only [Act.put, List.setIfInBounds_toArray, List.set_cons_zero, List.set_cons_succ]
  refine anyT_val (UP.pre g u) 12 rfl (by kernel_rfl) (by kernel_rfl) (by kernel_rfl) (fun _ _ _ _ h => h) rfl ?_; apply Exists.intro; refine ⟨fun v1 hv1 => ?_, ?_⟩; (· (go_simp; rfl)); simp only [Act.put, List.setIfInBounds_toArray, List.set_cons_zero, List.set_cons_succ]
  clear qa qb
  refine anyT_one 2 rfl (by kernel_rfl) rfl ?_
  refine wp_enter 116 #[.pointer (some ⟨g, 0, none⟩), .int .i64 2] (by go_simp) ((HGT.out w2 S2'.out.ur).mono ?_)
  rintro e w3 ⟨rfl, q3, hq3⟩
  have l3 : Later w2 w3 := by rw [hq3]; exact below_draw (Below.refl _ _) q3
  clear hq3
  refine ⟨UP.of l3, ?_⟩
  simp only [Act.put, List.setIfInBounds_toArray, List.set_cons_zero, List.set_cons_succ]
  refine anyT_one 13 rfl (by kernel_rfl) rfl ?_
  refine wp_enter 119 #[.int .u16 c2, .int .u16 u.a1, .int .u16 u.a] (by go_simp) ((patch_any c2 u.a1 u.a w3 hg2 ha1 ha).mono ?_)
  rintro e w4 ⟨rfl, rfl⟩
  refine ⟨UP.of (Below.refl _ _), ?_⟩
  simp only [Act.put, List.setIfInBounds_toArray, List.set_cons_zero, List.set_cons_succ]
  have HP := hide (ptv_bd c2 u.a1 u.a)
  have S3 := hide (S2'.out.later l3)
  refine anyT_one 14 rfl (by kernel_rfl) rfl ?_
  refine wp_enter 114 #[.pointer (some ⟨g, 0, none⟩), .int .i64 2, .int .u16 (ptv c2 u.a1 u.a)] (by go_simp; rfl) ((uput_any base g u z1 2 (ptv c2 u.a1 u.a) w4 S3.out.ur (Nat.le_trans hb (Nat.le_trans b2.size l3.size)) hl1 HP.out).mono ?_)
  rw [← HR.out]
  rintro e w5 ⟨rfl, S5, b5⟩
  refine ⟨⟨b5, fun _ => ⟨S5.choose, S5.choose_spec.1⟩⟩, ?_⟩
  simp only [Act.put, List.setIfInBounds_toArray, List.set_cons_zero, List.set_cons_succ]
  refine anyT_done (by kernel_rfl) ?_
  go_wp2_with fail
  go_end0
  exact ⟨rfl, S5, b2.trans ((But.of l3).trans b5)⟩
end Go.Proofs.YtdabhbadcbnkhaaGreatDoor

/- Package mangle: the map of what is done, and Rewrite. -/
namespace Go.Proofs.YtdabhbadcbnkhaaGreatDoor
open Go.RowKit Go.Shelf
set_option maxRecDepth 100000
set_option linter.unusedVariables false
set_option linter.unusedSimpArgs false

/-- A packet's cells of zeros. -/
abbrev zpk : List Value := [.int .u8 0, .int .u16 0, .bool false, .int .u8 0, .int .u8 0, .int .u32 0, .int .u32 0, .slice none 0 0, .slice none 0 0]

abbrev mth (f : FuncId) (g : Nat) : Value := .func (.func f) #[.pointer (some ⟨g, 0, none⟩)] #[]
def whE (g : Nat) : Array MapEntry := #[⟨.int .u8 6, mth 99 g, 0⟩, ⟨.int .u8 17, mth 100 g, 1⟩, ⟨.int .u8 1, mth 101 g, 2⟩, ⟨.int .u8 47, mth 91 g, 3⟩]

set_option maxHeartbeats 1000000 in
theorem whole_any (g : Nat) (w : World) : Calls Tryz.prog 74 #[.pointer (some ⟨g, 0, none⟩)] w fun e w' => ∃ m, e = .returned (.map (some m)) ∧ Later w w' ∧ w'.heap[m]? = some (.map (whE g) 4) := by
  have hmm := @run_makeMap Tryz.prog
  have hb0 : Below w.heap.size w (w.alloc (.map #[] 0)) := (Below.refl _ _).alloc (Nat.le_refl _) _
  have hM0 := heap_alloc_new w (.map #[] 0)
  obtain ⟨w1, r1, m1, l1⟩ := run_insq (P := Tryz.prog) Tryz.underlying99 Tryz.underlying5 hM0 6 (mth 99 g) (by kernel_rfl)
  obtain ⟨w2, r2, m2, l2⟩ := run_insq (P := Tryz.prog) Tryz.underlying99 Tryz.underlying5 m1 17 (mth 100 g) (by kernel_rfl)
  obtain ⟨w3, r3, m3, l3⟩ := run_insq (P := Tryz.prog) Tryz.underlying99 Tryz.underlying5 m2 1 (mth 101 g) (by kernel_rfl)
  obtain ⟨w4, r4, m4, l4⟩ := run_insq (P := Tryz.prog) Tryz.underlying99 Tryz.underlying5 m3 47 (mth 91 g) (by kernel_rfl)
  have hb4 : Below w.heap.size w w4 := (((hb0.trans (l1 _ (Nat.le_refl _))).trans (l2 _ (Nat.le_refl _))).trans (l3 _ (Nat.le_refl _))).trans (l4 _ (Nat.le_refl _))
  clear m1 m2 m3 l1 l2 l3 l4 hM0 hb0
  have M4 := hide m4
  clear m4
  go_enter Tryz.func74, Tryz.ntmps74
  go_wp2_with fail
  go_ret
  exact ⟨_, rfl, hb4, M4.out⟩

theorem run_findv {P : Program} {q : IntKind} {t kt et : TypeId} (ht : P.underlying t = some (.map kt et)) (hk : P.underlying kt = some (.int q)) {w : World} {b : Nat} {es : Array MapEntry} {c : Nat} (hb : w.heap[b]? = some (.map es c)) (z : Int) (v : Value) (j : Nat)
    (hf : Instr.findNow (.int q) (.int q z) es.toList 0 = some (some (j, v))) : (Instr.lookup t (.map (some b)) (.int q z) false).run P w = .ok v w := by
  have hc : (Instr.checkKey es.isEmpty 10000 kt (.int q z)).run P w = .ok () w := MapKept.run_checkKey (k := .int q z) hk (by simp [MapKept.IsKey]) _ 9999
  simp [Instr.lookup, run_underlying ht, MapKept.run_getObj_map hb, hc, MapKept.run_findKey hk hf, Result.andThen]

/-- What is done of a protocol that has a tuple. -/
def uf (pr : Int) : FuncId := if pr = 6 then 99 else if pr = 17 then 100 else if pr = 1 then 101 else 91
def pok (pr : Int) : Prop := pr = 6 ∨ pr = 17 ∨ pr = 1 ∨ pr = 47
theorem ofe_pok {pr src dst : Int} {zd : List Int} (h : ofe pr src dst zd = 0) : pok pr := by
  unfold ofe at h
  unfold pok
  split at h
  · omega
  split at h
  · omega
  split at h
  · omega
  split at h
  · omega
  · omega
theorem look_uf {pr : Int} (h : pok pr) (g : Nat) {w : World} {m : Nat} (hm : w.heap[m]? = some (.map (whE g) 4)) : (Instr.lookup 99 (.map (some m)) (.int .u8 pr) false).run Tryz.prog w = .ok (mth (uf pr) g) w := by
  rcases h with rfl | rfl | rfl | rfl
  · exact run_findv Tryz.underlying99 Tryz.underlying5 hm 6 _ 0 (by kernel_rfl)
  · exact run_findv Tryz.underlying99 Tryz.underlying5 hm 17 _ 1 (by kernel_rfl)
  · exact run_findv Tryz.underlying99 Tryz.underlying5 hm 1 _ 2 (by kernel_rfl)
  · exact run_findv Tryz.underlying99 Tryz.underlying5 hm 47 _ 3 (by kernel_rfl)
theorem cf_uf {pr : Int} (h : pok pr) (args : Array Value) (w : World) : (callFunc (uf pr) args).run Tryz.prog w = .ok (.enter (uf pr) args) w := by
  rcases h with rfl | rfl | rfl | rfl <;> kernel_rfl
theorem uf_any {pr : Int} {src dst : Int} (base : Nat) (g : Nat) (u : Un) (zs : List Int) (w : World) (hB : Mt.By zs) (h : UR w g u zs) (hb : base ≤ w.heap.size) (hl : 12 + zs.length ≤ 140737488355328) (hu : UOk u) (hpr : u.pr = pr) (ho : ofe pr src dst zs = 0) :
    Calls Tryz.prog (uf pr) #[.pointer (some ⟨g, 0, none⟩)] w fun e w' => UQ base w g u (rwD pr u.s u.d u.a u.b zs) e w' := by
  have hs := hu.1
  have hd := hu.2.1
  have ha := hu.2.2.1
  have hbb := hu.2.2.2
  unfold ofe at ho
  by_cases h6 : pr = 6
  · subst h6
    rw [if_pos rfl] at ho
    rw [show uf 6 = 99 from rfl, show rwD 6 u.s u.d u.a u.b zs = rwT u.s u.d u.a u.b zs from by unfold rwD; rw [if_pos rfl]]
    exact usegment_any base g u zs w hB h hb hl (rwT_pte (s := u.s) (d := u.d) (a := u.a) (b := u.b) hB ho hs hd ha hbb).2.2.2.1 hu hpr
  rw [if_neg h6] at ho
  by_cases h17 : pr = 17
  · subst h17
    rw [if_pos rfl] at ho
    rw [show uf 17 = 100 from rfl, show rwD 17 u.s u.d u.a u.b zs = rwU u.s u.d u.a u.b zs from by unfold rwD; rw [if_neg h6, if_pos rfl]]
    exact udatagram_any base g u zs w hB h hb hl (rwU_pue (s := u.s) (d := u.d) (a := u.a) (b := u.b) hB ho hs hd ha hbb).2 hu hpr
  rw [if_neg h17] at ho
  by_cases h1 : pr = 1
  · subst h1
    rw [if_pos rfl] at ho
    rw [show uf 1 = 101 from rfl, show rwD 1 u.s u.d u.a u.b zs = rwI u.a zs from by unfold rwD; rw [if_neg h6, if_neg h17, if_pos rfl]]
    exact umessage_any base g u zs w hB h hb (by omega) (rwI_oie (a := u.a) hB ho ha).2.2.2 hu
  rw [if_neg h1] at ho
  by_cases h47 : pr = 47
  · subst h47
    rw [if_pos rfl] at ho
    rw [show uf 47 = 91 from rfl, show rwD 47 u.s u.d u.a u.b zs = rwG u.b zs from by unfold rwD; rw [if_neg h6, if_neg h17, if_neg h1]]
    exact uframe_any base g u zs w h hb (by omega) (rwG_pge (b := u.b) ho).2.2 hu
  · rw [if_neg h47] at ho
    omega

/-- What Rewrite refuses with (0: nothing). -/
def rwe (pr tp src dst : Int) (lo : Nat) (zd : List Int) : Int := if pr ≠ tp then 12 else if ofe pr src dst zd ≠ 0 then ofe pr src dst zd else flt lo zd.length
end Go.Proofs.YtdabhbadcbnkhaaGreatDoor

/- Package mangle: a quoted header with other addresses; the map of what is done with what is quoted. -/
namespace Go.Proofs.YtdabhbadcbnkhaaGreatDoor
open Go.RowKit Go.Shelf
set_option maxRecDepth 100000
set_option linter.unusedVariables false
set_option linter.unusedSimpArgs false

def quE (g : Nat) : Array MapEntry := #[⟨.int .u8 6, mth 88 g, 0⟩, ⟨.int .u8 17, mth 89 g, 1⟩, ⟨.int .u8 1, mth 90 g, 2⟩, ⟨.int .u8 47, mth 91 g, 3⟩]

set_option maxHeartbeats 1000000 in
theorem quotedm_any (g : Nat) (w : World) : Calls Tryz.prog 54 #[.pointer (some ⟨g, 0, none⟩)] w fun e w' => ∃ m, e = .returned (.map (some m)) ∧ Later w w' ∧ w'.heap[m]? = some (.map (quE g) 4) := by
  have hmm := @run_makeMap Tryz.prog
  have hb0 : Below w.heap.size w (w.alloc (.map #[] 0)) := (Below.refl _ _).alloc (Nat.le_refl _) _
  have hM0 := heap_alloc_new w (.map #[] 0)
  obtain ⟨w1, r1, m1, l1⟩ := run_insq (P := Tryz.prog) Tryz.underlying99 Tryz.underlying5 hM0 6 (mth 88 g) (by kernel_rfl)
  obtain ⟨w2, r2, m2, l2⟩ := run_insq (P := Tryz.prog) Tryz.underlying99 Tryz.underlying5 m1 17 (mth 89 g) (by kernel_rfl)
  obtain ⟨w3, r3, m3, l3⟩ := run_insq (P := Tryz.prog) Tryz.underlying99 Tryz.underlying5 m2 1 (mth 90 g) (by kernel_rfl)
  obtain ⟨w4, r4, m4, l4⟩ := run_insq (P := Tryz.prog) Tryz.underlying99 Tryz.underlying5 m3 47 (mth 91 g) (by kernel_rfl)
  have hb4 : Below w.heap.size w w4 := (((hb0.trans (l1 _ (Nat.le_refl _))).trans (l2 _ (Nat.le_refl _))).trans (l3 _ (Nat.le_refl _))).trans (l4 _ (Nat.le_refl _))
  clear m1 m2 m3 l1 l2 l3 l4 hM0 hb0
  have M4 := hide m4
  clear m4
  go_enter Tryz.func54, Tryz.ntmps54
  go_wp2_with fail
  go_ret
  exact ⟨_, rfl, hb4, M4.out⟩

/-- What is done of a protocol that has a tuple, with what is quoted. -/
def uqf (pr : Int) : FuncId := if pr = 6 then 88 else if pr = 17 then 89 else if pr = 1 then 90 else 91
theorem look_uqf {pr : Int} (h : pok pr) (g : Nat) {w : World} {m : Nat} (hm : w.heap[m]? = some (.map (quE g) 4)) : (Instr.lookup 99 (.map (some m)) (.int .u8 pr) false).run Tryz.prog w = .ok (mth (uqf pr) g) w := by
  rcases h with rfl | rfl | rfl | rfl
  · exact run_findv Tryz.underlying99 Tryz.underlying5 hm 6 _ 0 (by kernel_rfl)
  · exact run_findv Tryz.underlying99 Tryz.underlying5 hm 17 _ 1 (by kernel_rfl)
  · exact run_findv Tryz.underlying99 Tryz.underlying5 hm 1 _ 2 (by kernel_rfl)
  · exact run_findv Tryz.underlying99 Tryz.underlying5 hm 47 _ 3 (by kernel_rfl)
theorem cf_uqf {pr : Int} (h : pok pr) (args : Array Value) (w : World) : (callFunc (uqf pr) args).run Tryz.prog w = .ok (.enter (uqf pr) args) w := by
  rcases h with rfl | rfl | rfl | rfl <;> kernel_rfl
theorem uqf_any {pr : Int} (base : Nat) (g : Nat) (u : Un) (zs : List Int) (w : World) (hB : Mt.By zs) (h : UR w g u zs) (hb : base ≤ w.heap.size) (hl : zs.length ≤ 140737488355328) (hu : UOk u) (hw : UOw u) (hp : pok pr) (h8 : 8 ≤ zs.length) :
    Calls Tryz.prog (uqf pr) #[.pointer (some ⟨g, 0, none⟩)] w fun e w' => UQ base w g u (qsD pr u zs) e w' := by
  rcases hp with rfl | rfl | rfl | rfl
  · exact uqsegment_any base g u zs w hB h hb hl h8 hu hw
  · exact uqdatagram_any base g u zs w hB h hb hl h8 hu hw
  · exact uqmessage_any base g u zs w hB h hb hl h8 hu hw
  · exact uframe_any base g u zs w h hb hl h8 hu

/-- A quoted header with other addresses. -/
def rnm (s d : Int) (zs : List Int) : List Int := putAt2 (putAt2 (putAt4 (putAt4 zs 12 s) 16 d) 10 0) 10 (Mt.cks (putAt2 (putAt4 (putAt4 zs 12 s) 16 d) 10 0))

set_option maxHeartbeats 2000000 in
theorem renamed_any (tp s d a b : Int) (sv : Value) (zs : List Int) (w : World) (hB : Mt.By zs) (hI : Rd w.heap.size w sv zs) (hl : zs.length ≤ 140737488355328) (hs : 0 ≤ s ∧ s ≤ 4294967295) (hd : 0 ≤ d ∧ d ≤ 4294967295) :
    Calls Tryz.prog 56 #[sv, .agg #[.int .u8 tp, .int .u32 s, .int .u32 d, .int .u16 a, .int .u16 b]] w fun e w' => ∃ a, e = .returned (.slice a zs.length zs.length) ∧ Ow w.heap.size w' (.slice a zs.length zs.length) (rnm s d zs) ∧ Below w.heap.size w w' := by
  obtain ⟨a0, c0, rfl, hl0, hm0⟩ := hI.slice
  have HR : Hid (rnm s d zs = putAt2 (putAt2 (putAt4 (putAt4 zs 12 s) 16 d) 10 0) 10 (Mt.cks (putAt2 (putAt4 (putAt4 zs 12 s) 16 d) 10 0))) := rfl
  have h1 := putAt4_length zs 12 s
  have h2 := putAt4_length (putAt4 zs 12 s) 16 d
  have h3 := putAt2_length (putAt4 (putAt4 zs 12 s) 16 d) 10 0
  have hB3 : Mt.By (putAt2 (putAt4 (putAt4 zs 12 s) 16 d) 10 0) := By_putAt2 (By_putAt4 (By_putAt4 hB 12 hs) 16 hd) 10 (by omega)
  generalize rnm s d zs = zr at *
  have H1 := hide (fun (v : World) sv (h : Rd v.heap.size v sv zs) => put32_any sv zs 12 s v hl h hs)
  have H2 := hide (fun (v : World) sv (h : Rd v.heap.size v sv (putAt4 zs 12 s)) => put32_any sv (putAt4 zs 12 s) 16 d v (by omega) h hd)
  have H3 := hide (fun (v : World) sv (h : Rd v.heap.size v sv (putAt4 (putAt4 zs 12 s) 16 d)) => put16_any sv (putAt4 (putAt4 zs 12 s) 16 d) 10 0 v (by omega) h (by omega))
  generalize putAt4 zs 12 s = z1 at *
  generalize putAt4 z1 16 d = z2 at *
  generalize putAt2 z2 10 0 = z3 at *
  rw [h1] at H2
  rw [h2, h1] at H3
  have h2' := h2.trans h1
  have h3' := h3.trans h2'
  have H5 := hide (fun (v : World) sv (h : Rd v.heap.size v sv z3) => put16_any sv z3 10 (Mt.cks z3) v (by omega) h (Mt.cks_bd z3))
  have H4 := hide (fun (v : World) sv (h : Rd v.heap.size v sv z3) => sum_any sv z3 hB3 (by omega) v h)
  rw [h3', ← HR.out] at H5
  clear h1 h2 h3 h2' h3' HR
  have lw := later_alloc9 w (.cells #[.int .u8 tp, .int .u32 s, .int .u32 d, .int .u16 a, .int .u16 b] 29)
  have rT := heap_alloc_new w (.cells #[.int .u8 tp, .int .u32 s, .int .u32 d, .int .u16 a, .int .u16 b] 29)
  have RT := hide rT
  have hI1 := (hI.below lw).mono lw.size
  go_enter Tryz.func56, Tryz.ntmps56
  go_wp2_with fail
  refine (H1.out _ _ hI1).mono ?_
  rintro e w2 ⟨a2, rfl, O2, b2⟩
  have L2 : Later w w2 := lw.trans b2
  have RT2 := hide ((b2.block w.heap.size (by simp)).trans RT.out)
  have R2 := O2.rd
  clear O2 b2 hI1 RT lw rT hI
  have C2 := block_cell RT2.out
  go_wp2_with fail
  refine (H2.out _ _ R2).mono ?_
  rintro e w3 ⟨a3, rfl, O3, b3⟩
  have L3 : Later w w3 := L2.trans b3
  have R3 := O3.rd
  clear O3 C2 R2 RT2
  go_wp2_with fail
  refine (H3.out _ _ R3).mono ?_
  rintro e w4 ⟨a4, rfl, O4, b4⟩
  have L4 : Later w w4 := L3.trans b4
  have R4 := O4.rd
  clear O4 R3
  go_wp2_with fail
  refine (H4.out _ _ R4).mono ?_
  rintro e w5 ⟨rfl, b5⟩
  have L5 : Later w w5 := L4.trans b5
  have R5 := (R4.below b5).mono b5.size
  generalize Mt.cks z3 = cs at *
  clear R4
  go_wp2_with fail
  refine (H5.out _ _ R5).mono ?_
  rintro e w6 ⟨a6, rfl, O6, b6⟩
  go_wp2_with fail
  go_ret
  exact ⟨_, rfl, O6.mono L5.size, L5.trans b6⟩
end Go.Proofs.YtdabhbadcbnkhaaGreatDoor

/- Package slices: Grow of nothing, Concat of slices of bytes. -/
namespace Go.Proofs.YtdabhbadcbnkhaaGreatDoor
open Go.RowKit Go.Shelf
set_option maxRecDepth 100000
set_option linter.unusedVariables false
set_option linter.unusedSimpArgs false

set_option maxHeartbeats 2000000 in
theorem grow_any (n : Nat) (w : World) (h0 : 0 < n) (hn : n ≤ 140737488355328) :
    Calls Tryz.prog 92 #[.slice none 0 0, .int .i64 n] w fun e w' => ∃ v, e = .returned v ∧ w'.ownsRow w.heap.size 5 1 v 0 [] ∧ Below w.heap.size w w' := by
  obtain ⟨i0, hi, hz0, hz1, hz2⟩ := info_parts info_u8
  have hcap := grownCap_le_maxLen w n 0 5 (by unfold maxLen; omega)
  have hcap0 := grownCap_ge w n 0 5
  have hr := Lib.run_append_nil_zeros (P := Tryz.prog) w 24 3 24 5 i0 (.int .u8 0) .i64 .i64 Tryz.underlying24 Tryz.underlying3 hi hz0 n h0 (by omega) (by omega) (by rw [hz2]; omega)
  have hsz : (Builtin.zeroCells (Value.int .u8 0).cells n ++ Builtin.zeroCells (Value.int .u8 0).cells (grownCap w n 0 5 - n)).size = grownCap w n 0 5 * 1 := by
    simp [Builtin.zeroCells, Value.cells]
    omega
  have ho := World.ownsRow_made (base := w.heap.size) (e := 5) (size := 1) w.drew (Builtin.zeroCells (Value.int .u8 0).cells n ++ Builtin.zeroCells (Value.int .u8 0).cells (grownCap w n 0 5 - n)) (grownCap w n 0 5) (Nat.le_refl _) hcap hsz
  have hb : Below w.heap.size w (w.drew.alloc (.cells (Builtin.zeroCells (Value.int .u8 0).cells n ++ Builtin.zeroCells (Value.int .u8 0).cells (grownCap w n 0 5 - n)) 5)) := (Below.refl _ _).drew.alloc (Nat.le_refl _) _
  have HO := hide ho
  have HB := hide hb
  clear ho hb hsz
  generalize w.drew.alloc (.cells (Builtin.zeroCells (Value.int .u8 0).cells n ++ Builtin.zeroCells (Value.int .u8 0).cells (grownCap w n 0 5 - n)) 5) = w1 at *
  generalize grownCap w n 0 5 = cp at *
  have hcp : cp ≤ 9223372036854775807 := hcap
  clear hcap
  go_enter Tryz.func92, Tryz.ntmps92
  go_wp2_with (at_builtin; refine Lib.wpList_append_run _ rfl (.tmp 20) (.tmp 21) _ _ rfl (.slice none 0 0) (.int .i64 n) rfl rfl _ _ hr ?_; clear hr)
  go_ret
  exact ⟨_, rfl, HO.out, HB.out⟩

set_option maxHeartbeats 2000000 in
/-- Slices put one behind the other. -/
theorem concat_any (pb cap : Nat) (svs : List Value) (zss : List (List Int)) (w : World) (hn : svs.length = zss.length) (hcap : svs.length ≤ cap) (hk : svs.length ≤ 1000) (h0 : 0 < zss.flatten.length) (hl : zss.flatten.length ≤ 140737488355328)
    (hc : ∀ j, j < svs.length → w.cell? ⟨pb, j, none⟩ = some (svs[j]?.getD undef)) (hR : ∀ j, j < svs.length → Rd w.heap.size w (svs[j]?.getD undef) (zss[j]?.getD [])) :
    Calls Tryz.prog 55 #[.slice (some ⟨pb, 0, none⟩) svs.length cap] w fun e w' => ∃ v, e = .returned v ∧ w'.ownsRow w.heap.size 5 1 v zss.flatten.length (zss.flatten.map (Value.int .u8)) ∧ Below w.heap.size w w' := by
  obtain ⟨i0, hi, hz0, hz1, hz2⟩ := info_parts info_u8
  have HN := hide hn
  clear hn
  have HFL := hide (fun k (hlt : k < svs.length) => show (zss.take (k + 1)).flatten = (zss.take k).flatten ++ (zss[k]?.getD []) ∧ (zss.take (k + 1)).flatten.length ≤ zss.flatten.length from by
    have hkz : k < zss.length := by have := HN.out; omega
    have e1 : zss.take (k + 1) = zss.take k ++ [zss[k]?.getD []] := by
      rw [List.take_succ_eq_append_getElem hkz, List.getElem?_eq_getElem hkz]
      rfl
    refine ⟨by rw [e1, List.flatten_append, List.flatten_cons, List.flatten_nil, List.append_nil], ?_⟩
    conv => rhs; rw [← List.take_append_drop (k + 1) zss, List.flatten_append]
    simp)
  go_enter Tryz.func55, Tryz.ntmps55
  go_wp2
  go_loopw [3, 11] (fun v i wr => ∃ k : Nat, k ≤ svs.length ∧ i = .int .i64 (k : Int) ∧ v = .int .i64 ((zss.take k).flatten.length : Nat) ∧ wr = w)
    (fun _ i _ => svs.length - (intOf i).toNat)
  case atStart => exact ⟨0, by omega, rfl, rfl, rfl⟩
  case round =>
    obtain ⟨k, hk1, rfl, rfl, rfl⟩ := hrel
    by_cases hlt : k < svs.length
    · have hcx := hc k hlt
      have hRx := hR k hlt
      obtain ⟨hfl, hle⟩ := HFL.out k hlt
      have hlen : (zss.take k).flatten.length + (zss[k]?.getD []).length ≤ 140737488355328 := by rw [← List.length_append, ← hfl]; omega
      have HF : Hid ((zss.take (k + 1)).flatten.length = (zss.take k).flatten.length + (zss[k]?.getD []).length) := by show _ = _; rw [hfl, List.length_append]
      clear hfl hle hc hR
      generalize svs[k]?.getD undef = sv at *
      generalize zss[k]?.getD [] = zs at *
      generalize (zss.take k).flatten.length = sz at *
      obtain ⟨a, cp, rfl, hl1, hm1⟩ := hRx.slice
      have hlt' : (k : Int) < svs.length := by omega
      go_wp2_with fail
      go_roundw
      case rel => exact ⟨k + 1, by omega, by go_num, by rw [HF.out]; go_num, trivial⟩
      case measure => simp [intOf]; omega
    · obtain rfl : k = svs.length := by omega
      obtain ⟨w0, hw0⟩ : ∃ x, x = wr := ⟨_, rfl⟩
      subst hw0
      rw [HN.out, List.take_length]
      rw [HN.out] at hc hR
      have hgr := hide (grow_any zss.flatten.length w0 h0 hl)
      have HL := hide hl
      clear h0 hl
      generalize hnn : zss.flatten.length = nn at hgr HL ⊢
      have HQ := hide hnn
      clear hnn
      go_upto_region 9 with fail
      go_wp2_with fail
      refine hgr.out.mono ?_
      rintro e w1 ⟨nv, rfl, hown1, hb1⟩
      go_wp2_with fail
      go_loopw [6, 27] (fun v i wq => ∃ k : Nat, k ≤ zss.length ∧ i = .int .i64 (k : Int) ∧ wq.ownsRow w0.heap.size 5 1 v (zss.take k).flatten.length ((zss.take k).flatten.map (Value.int .u8)) ∧ Below w0.heap.size w0 wq)
        (fun _ i _ => zss.length - (intOf i).toNat)
      case atStart => exact ⟨0, by omega, rfl, hown1, hb1⟩
      case round =>
        obtain ⟨k, hk1, rfl, hown, hnx⟩ := hrel
        by_cases hlt : k < zss.length
        · have hck := hc k hlt
          have hpb : pb < w0.heap.size := World.block_lt_of_cell? w0 ⟨pb, k, none⟩ hck
          have hcx : wr.cell? ⟨pb, k, none⟩ = some (svs[k]?.getD undef) := (hnx.cell (p := ⟨pb, k, none⟩) hpb).trans hck
          have hRx : Rd w0.heap.size wr (svs[k]?.getD undef) (zss[k]?.getD []) := (hR k hlt).below hnx
          obtain ⟨hfl, hle⟩ := HFL.out k (by rw [HN.out]; exact hlt)
          have HF := hide hfl
          have hlen : (zss.take k).flatten.length + (zss[k]?.getD []).length ≤ 140737488355328 := by rw [← List.length_append, ← hfl]; exact Nat.le_trans hle (by rw [HQ.out]; exact HL.out)
          clear hfl hle hc hR hck
          generalize svs[k]?.getD undef = sv at *
          generalize zss[k]?.getD [] = zs at *
          obtain ⟨a, cp, rfl, hl1, hm1⟩ := hRx.slice
          have hlt' : (k : Int) < zss.length := by omega
          have hk' : zss.length ≤ 1000 := by rw [← HN.out]; exact hk
          have HL1 := hide (show k + 1 ≤ zss.length from hlt)
          go_wp2_with (at_builtin; refine wpList_app _ rfl (.tmp 31) (.tmp 32) 24 rfl w0.heap.size 5 i0 Tryz.underlying24 hi hz0 hz1 hz2 _ _ rfl hown w0.heap.size _ zs rfl hRx hlen hnx.size ?_; intro v1 w1 hown1 hg1; have hb1 := below_app hnx hown hg1 (Nat.le_refl _) hnx.size; clear hg1 hown)
          go_roundw
          case rel => exact ⟨k + 1, HL1.out, by go_num, by rw [HF.out]; exact hown1, hb1⟩
          case measure => have := HL1.out; simp [intOf]; omega
        · obtain rfl : k = zss.length := by omega
          rw [List.take_length] at hown
          go_wp2_with fail
          go_ret
          exact ⟨_, rfl, hown, hnx⟩
end Go.Proofs.YtdabhbadcbnkhaaGreatDoor

/- Layer 5: what is read of the first eight bytes of a quoted packet's data. -/
namespace Go.Proofs.YtdabhbadcbnkhaaGreatDoor
open Go.RowKit Go.Shelf
set_option maxRecDepth 100000
set_option linter.unusedVariables false
set_option linter.unusedSimpArgs false

theorem rd8 {W : World} {b : Nat} {x0 x1 x2 x3 x4 x5 x6 x7 : Int} (h : W.heap[b]? = some (.cells #[.int .u8 x0, .int .u8 x1, .int .u8 x2, .int .u8 x3, .int .u8 x4, .int .u8 x5, .int .u8 x6, .int .u8 x7] 94 (0, 0))) : Rd W.heap.size W (.slice (some ⟨b, 0, none⟩) 8 8) [x0, x1, x2, x3, x4, x5, x6, x7] := by
  refine .inr ⟨b, 0, 8, rfl, by simp, by simp, by omega, (Array.getElem?_eq_some_iff.1 h).1, fun j hj => ?_⟩
  rw [Nat.zero_add, block_cell h j]
  simp at hj
  match j, hj with
  | 0, _ => rfl
  | 1, _ => rfl
  | 2, _ => rfl
  | 3, _ => rfl
  | 4, _ => rfl
  | 5, _ => rfl
  | 6, _ => rfl
  | 7, _ => rfl

set_option maxHeartbeats 4000000 in
theorem ofTwo_any (x0 x1 x2 x3 x4 x5 x6 x7 : Int) (w : World) (hBx : Mt.By [x0, x1, x2, x3, x4, x5, x6, x7]) :
    Calls Tryz.prog 80 #[.agg #[.int .u8 x0, .int .u8 x1, .int .u8 x2, .int .u8 x3, .int .u8 x4, .int .u8 x5, .int .u8 x6, .int .u8 x7]] w fun e w' => Below w.heap.size w w' ∧ e = .returned (.tuple #[.agg #[.int .u16 (getAt2 [x0, x1, x2, x3, x4, x5, x6, x7] 0), .int .u16 (getAt2 [x0, x1, x2, x3, x4, x5, x6, x7] 2)], .int .i64 0]) := by
  have hb0 : Below w.heap.size w ((w.alloc (.cells #[.int .u8 x0, .int .u8 x1, .int .u8 x2, .int .u8 x3, .int .u8 x4, .int .u8 x5, .int .u8 x6, .int .u8 x7] 94)).alloc (.cells #[.int .u16 0, .int .u16 0] 92)) := ((Below.refl _ _).alloc (Nat.le_refl _) _).alloc (by simp) _
  have p0 : ((w.alloc (.cells #[.int .u8 x0, .int .u8 x1, .int .u8 x2, .int .u8 x3, .int .u8 x4, .int .u8 x5, .int .u8 x6, .int .u8 x7] 94)).alloc (.cells #[.int .u16 0, .int .u16 0] 92)).heap[w.heap.size]? = some (.cells #[.int .u8 x0, .int .u8 x1, .int .u8 x2, .int .u8 x3, .int .u8 x4, .int .u8 x5, .int .u8 x6, .int .u8 x7] 94) := (Below.heap_alloc _ _ _ (by simp)).trans (heap_alloc_new w _)
  have r0 := heap_alloc_new (w.alloc (.cells #[.int .u8 x0, .int .u8 x1, .int .u8 x2, .int .u8 x3, .int .u8 x4, .int .u8 x5, .int .u8 x6, .int .u8 x7] 94)) (.cells #[.int .u16 0, .int .u16 0] 92)
  rw [World.size_alloc] at r0
  have P0 := hide p0
  have R0 := hide r0
  clear r0 p0
  have hB : Mt.By [x0, x1, x2, x3, x4, x5, x6, x7] := hBx
  go_enter Tryz.func80, Tryz.ntmps80
  go_upto_region 1 with fail
  generalize ((w.alloc (.cells #[.int .u8 x0, .int .u8 x1, .int .u8 x2, .int .u8 x3, .int .u8 x4, .int .u8 x5, .int .u8 x6, .int .u8 x7] 94)).alloc (.cells #[.int .u16 0, .int .u16 0] 92)) = w0 at *
  refine anyT_begin (R := But (fun b => b = w.heap.size + 1)) 7 rfl (by kernel_rfl) ?_
  have ld : Later w0 w0.drew := Later.drew w0
  have pWd := later_keep ld P0.out
  have rWd := later_keep ld R0.out
  generalize w0.drew = Wd at *
  refine anyT_val (But.pre _) 0 rfl (by kernel_rfl) (by kernel_rfl) (by kernel_rfl) (fun _ _ _ _ h => h) rfl ?_; apply Exists.intro; refine ⟨fun v1 hv1 => ?_, ?_⟩; (· (go_simp; rfl)); simp only [Act.put, List.setIfInBounds_toArray, List.set_cons_zero, List.set_cons_succ]
  refine anyT_val (But.pre _) 2 rfl (by kernel_rfl) (by kernel_rfl) (by kernel_rfl) (fun _ _ _ _ h => h) rfl ?_; apply Exists.intro; refine ⟨fun v1 hv1 => ?_, ?_⟩; (· (go_simp; rfl)); simp only [Act.put, List.setIfInBounds_toArray, List.set_cons_zero, List.set_cons_succ]
  refine anyT_one 1 rfl (by kernel_rfl) rfl ?_
  refine wp_enter 87 #[.slice (some ⟨w.heap.size, 0, none⟩) 8 8, .int .i64 0] (by go_simp) ?_
  refine (get16_at _ [x0, x1, x2, x3, x4, x5, x6, x7] hB 0 Wd (rd8 pWd)).mono ?_
  rintro e W1 ⟨rfl, nW1, eW1⟩
  have lW1 : Later Wd W1 := by rw [eW1]; exact below_draw (Later.refl Wd) nW1
  clear eW1
  have pW1 := later_keep lW1 pWd
  have rW1 := later_keep lW1 rWd
  refine ⟨But.of lW1, ?_⟩
  simp only [Act.put, List.setIfInBounds_toArray, List.set_cons_zero, List.set_cons_succ]
  refine anyT_one 3 rfl (by kernel_rfl) rfl ?_
  refine wp_enter 87 #[.slice (some ⟨w.heap.size, 0, none⟩) 8 8, .int .i64 2] (by go_simp) ?_
  refine (get16_at _ [x0, x1, x2, x3, x4, x5, x6, x7] hB 2 W1 (rd8 pW1)).mono ?_
  rintro e W2 ⟨rfl, nW2, eW2⟩
  have lW2 : Later W1 W2 := by rw [eW2]; exact below_draw (Later.refl W1) nW2
  clear eW2
  have pW2 := later_keep lW2 pW1
  have rW2 := later_keep lW2 rW1
  refine ⟨But.of lW2, ?_⟩
  simp only [Act.put, List.setIfInBounds_toArray, List.set_cons_zero, List.set_cons_succ]
  generalize hg0 : getAt2 [x0, x1, x2, x3, x4, x5, x6, x7] 0 = g0 at *
  have HG0 := hide hg0
  clear hg0
  generalize hg2 : getAt2 [x0, x1, x2, x3, x4, x5, x6, x7] 2 = g2 at *
  have HG2 := hide hg2
  clear hg2
  refine anyT_val (But.pre _) 4 rfl (by kernel_rfl) (by kernel_rfl) (by kernel_rfl) (fun _ _ _ _ h => h) rfl ?_; apply Exists.intro; refine ⟨fun v1 hv1 => ?_, ?_⟩; (· (go_simp; rfl)); simp only [Act.put, List.setIfInBounds_toArray, List.set_cons_zero, List.set_cons_succ]
  have rX := rW2
  have hwX : Below w.heap.size w W2 := hb0.trans ((ld.trans (lW1.trans lW2)).mono hb0.size)
  have kX := block_cell rX
  have fX := block_frozen rX
  refine anyT_one 5 rfl (by kernel_rfl) rfl ?_
  unfold Oper.wp
  go_simp
  generalize hV : (W2.setCell ⟨w.heap.size + 1, 0, none⟩ _).setCell ⟨w.heap.size + 1, 1, none⟩ _ = V
  have hV8 : V = putRow W2 (w.heap.size + 1) 0 [.int .u16 g0, .int .u16 g2] := hV.symm
  have hbV : But (fun b => b = w.heap.size + 1) W2 V := by rw [hV8]; exact putRow_but (E := fun b => b = w.heap.size + 1) (n := w.heap.size + 1) rfl _ _ _ _ (But.refl _ _)
  have pV := putRow_all ([.int .u16 g0, .int .u16 g2] : List Value) rX rfl
  rw [← hV8] at pV
  clear hV hV8 kX fX
  refine ⟨hbV, ?_⟩
  refine anyT_one 6 rfl (by kernel_rfl) rfl ?_
  unfold Oper.wp
  go_simp
  refine ⟨But.refl _ _, ?_⟩
  refine anyT_done (by kernel_rfl) ?_
  go_wp2_with fail
  have PV := block_cell pV
  have hwV : Below w.heap.size w V := hwX.trans (hbV.below hwX.size (fun k hk e => by omega))
  exact bodyPost_ret (v := .tuple #[.agg #[.int .u16 g0, .int .u16 g2], .int .i64 0]) (by simp [results, Tryz.results80, go_sem, PV]) rfl ⟨hwV, by rw [HG0.out, HG2.out]⟩

set_option maxHeartbeats 4000000 in
theorem ofEcho_any (x0 x1 x2 x3 x4 x5 x6 x7 : Int) (w : World) (hBx : Mt.By [x0, x1, x2, x3, x4, x5, x6, x7]) :
    Calls Tryz.prog 83 #[.agg #[.int .u8 x0, .int .u8 x1, .int .u8 x2, .int .u8 x3, .int .u8 x4, .int .u8 x5, .int .u8 x6, .int .u8 x7]] w fun e w' => Below w.heap.size w w' ∧ ((ecb x0 x1 = true ∧ e = .returned (.tuple #[.agg #[.int .u16 (getAt2 [x0, x1, x2, x3, x4, x5, x6, x7] 4), .int .u16 (getAt2 [x0, x1, x2, x3, x4, x5, x6, x7] 4)], .int .i64 0])) ∨ (ecb x0 x1 = false ∧ e = .returned (.tuple #[.agg #[.int .u16 0, .int .u16 0], .int .i64 12]))) := by
  have hb0 : Below w.heap.size w ((w.alloc (.cells #[.int .u8 x0, .int .u8 x1, .int .u8 x2, .int .u8 x3, .int .u8 x4, .int .u8 x5, .int .u8 x6, .int .u8 x7] 94)).alloc (.cells #[.int .u16 0, .int .u16 0] 92)) := ((Below.refl _ _).alloc (Nat.le_refl _) _).alloc (by simp) _
  have p0 : ((w.alloc (.cells #[.int .u8 x0, .int .u8 x1, .int .u8 x2, .int .u8 x3, .int .u8 x4, .int .u8 x5, .int .u8 x6, .int .u8 x7] 94)).alloc (.cells #[.int .u16 0, .int .u16 0] 92)).heap[w.heap.size]? = some (.cells #[.int .u8 x0, .int .u8 x1, .int .u8 x2, .int .u8 x3, .int .u8 x4, .int .u8 x5, .int .u8 x6, .int .u8 x7] 94) := (Below.heap_alloc _ _ _ (by simp)).trans (heap_alloc_new w _)
  have r0 := heap_alloc_new (w.alloc (.cells #[.int .u8 x0, .int .u8 x1, .int .u8 x2, .int .u8 x3, .int .u8 x4, .int .u8 x5, .int .u8 x6, .int .u8 x7] 94)) (.cells #[.int .u16 0, .int .u16 0] 92)
  rw [World.size_alloc] at r0
  have P0 := hide p0
  have R0 := hide r0
  clear r0 p0
  have hB : Mt.By [x0, x1, x2, x3, x4, x5, x6, x7] := hBx
  go_enter Tryz.func83, Tryz.ntmps83
  go_upto_region 1 with fail
  generalize ((w.alloc (.cells #[.int .u8 x0, .int .u8 x1, .int .u8 x2, .int .u8 x3, .int .u8 x4, .int .u8 x5, .int .u8 x6, .int .u8 x7] 94)).alloc (.cells #[.int .u16 0, .int .u16 0] 92)) = w0 at *
  refine anyT_begin (R := But (fun b => b = w.heap.size + 1)) 12 rfl (by kernel_rfl) ?_
  have ld : Later w0 w0.drew := Later.drew w0
  have pWd := later_keep ld P0.out
  have rWd := later_keep ld R0.out
  generalize w0.drew = Wd at *
  have ha : ∀ v1, But (fun b => b = w.heap.size + 1) Wd v1 → ∀ i, v1.cell? ⟨w.heap.size, i, none⟩ = #[Value.int .u8 x0, .int .u8 x1, .int .u8 x2, .int .u8 x3, .int .u8 x4, .int .u8 x5, .int .u8 x6, .int .u8 x7][i]? := fun v1 h => block_cell ((h.block w.heap.size (Array.getElem?_eq_some_iff.1 pWd).1 (by omega)).trans pWd)
  refine anyT_val (But.pre _) 0 rfl (by kernel_rfl) (by kernel_rfl) (by kernel_rfl) (fun _ _ _ _ h => h) rfl ?_; apply Exists.intro; refine ⟨fun v1 hv1 => ?_, ?_⟩; (· (go_simp; rfl)); simp only [Act.put, List.setIfInBounds_toArray, List.set_cons_zero, List.set_cons_succ]
  refine anyT_val (But.pre _) 1 rfl (by kernel_rfl) (by kernel_rfl) (by kernel_rfl) (fun _ _ _ _ h => h) rfl ?_; apply Exists.intro; refine ⟨fun v1 hv1 => ?_, ?_⟩; (· (go_simp; rfl)); simp only [Act.put, List.setIfInBounds_toArray, List.set_cons_zero, List.set_cons_succ]
  refine anyT_val (But.pre _) 2 rfl (by kernel_rfl) (by kernel_rfl) (by kernel_rfl) (fun _ _ _ _ h => h) rfl ?_; apply Exists.intro; refine ⟨fun v1 hv1 => ?_, ?_⟩; (· (go_simp; rfl)); simp only [Act.put, List.setIfInBounds_toArray, List.set_cons_zero, List.set_cons_succ]
  refine anyT_val (But.pre _) 3 rfl (by kernel_rfl) (by kernel_rfl) (by kernel_rfl) (fun _ _ _ _ h => h) rfl ?_; apply Exists.intro; refine ⟨fun v1 hv1 => ?_, ?_⟩; (· (go_simp; rfl)); simp only [Act.put, List.setIfInBounds_toArray, List.set_cons_zero, List.set_cons_succ]
  clear ha
  refine anyT_val (But.pre _) 4 rfl (by kernel_rfl) (by kernel_rfl) (by kernel_rfl) (fun _ _ _ _ h => h) rfl ?_; apply Exists.intro; refine ⟨fun v1 hv1 => ?_, ?_⟩; (· (go_simp; rfl)); simp only [Act.put, List.setIfInBounds_toArray, List.set_cons_zero, List.set_cons_succ]
  refine anyT_val (But.pre _) 5 rfl (by kernel_rfl) (by kernel_rfl) (by kernel_rfl) (fun _ _ _ _ h => h) rfl ?_; apply Exists.intro; refine ⟨fun v1 hv1 => ?_, ?_⟩; (· (go_simp; rfl)); simp only [Act.put, List.setIfInBounds_toArray, List.set_cons_zero, List.set_cons_succ]
  refine anyT_one 6 rfl (by kernel_rfl) rfl ?_
  refine wp_enter 87 #[.slice (some ⟨w.heap.size, 0, none⟩) 8 8, .int .i64 4] (by go_simp) ?_
  refine (get16_at _ [x0, x1, x2, x3, x4, x5, x6, x7] hB 4 Wd (rd8 pWd)).mono ?_
  rintro e W1 ⟨rfl, nW1, eW1⟩
  have lW1 : Later Wd W1 := by rw [eW1]; exact below_draw (Later.refl Wd) nW1
  clear eW1
  have pW1 := later_keep lW1 pWd
  have rW1 := later_keep lW1 rWd
  refine ⟨But.of lW1, ?_⟩
  simp only [Act.put, List.setIfInBounds_toArray, List.set_cons_zero, List.set_cons_succ]
  generalize hg4 : getAt2 [x0, x1, x2, x3, x4, x5, x6, x7] 4 = g4 at *
  have HG4 := hide hg4
  clear hg4
  refine anyT_one 7 rfl (by kernel_rfl) rfl ?_
  refine wp_enter 111 #[.agg #[.int .u8 x0, .int .u8 x1, .int .u32 0, .slice none 0 0], .int .u16 g4] (by go_simp) ?_
  refine (ofNumber_any x0 x1 0 g4 _ W1).mono ?_
  rintro e W2 ⟨hb2, ⟨he, rfl⟩ | ⟨he, rfl⟩⟩
  · have HE := hide he
    clear he
    have l2 : Later W1 W2 := hb2
    have rX := later_keep l2 rW1
    have hwX : Below w.heap.size w W2 := hb0.trans ((ld.trans (lW1.trans l2)).mono hb0.size)
    refine ⟨But.of l2, ?_⟩
    simp only [Act.put, List.setIfInBounds_toArray, List.set_cons_zero, List.set_cons_succ]
    refine anyT_val (But.pre _) 8 rfl (by kernel_rfl) (by kernel_rfl) (by kernel_rfl) (fun _ _ _ _ h => h) rfl ?_; apply Exists.intro; refine ⟨fun v1 hv1 => ?_, ?_⟩; (· (go_simp; rfl)); simp only [Act.put, List.setIfInBounds_toArray, List.set_cons_zero, List.set_cons_succ]
    refine anyT_val (But.pre _) 9 rfl (by kernel_rfl) (by kernel_rfl) (by kernel_rfl) (fun _ _ _ _ h => h) rfl ?_; apply Exists.intro; refine ⟨fun v1 hv1 => ?_, ?_⟩; (· (go_simp; rfl)); simp only [Act.put, List.setIfInBounds_toArray, List.set_cons_zero, List.set_cons_succ]
    have kX := block_cell rX
    have fX := block_frozen rX
    refine anyT_one 10 rfl (by kernel_rfl) rfl ?_
    unfold Oper.wp
    go_simp
    generalize hV : (W2.setCell ⟨w.heap.size + 1, 0, none⟩ _).setCell ⟨w.heap.size + 1, 1, none⟩ _ = V
    have hV8 : V = putRow W2 (w.heap.size + 1) 0 [.int .u16 g4, .int .u16 g4] := hV.symm
    have hbV : But (fun b => b = w.heap.size + 1) W2 V := by rw [hV8]; exact putRow_but (E := fun b => b = w.heap.size + 1) (n := w.heap.size + 1) rfl _ _ _ _ (But.refl _ _)
    have pV := putRow_all ([.int .u16 g4, .int .u16 g4] : List Value) rX rfl
    rw [← hV8] at pV
    clear hV hV8 kX fX
    refine ⟨hbV, ?_⟩
    refine anyT_one 11 rfl (by kernel_rfl) rfl ?_
    unfold Oper.wp
    go_simp
    refine ⟨But.refl _ _, ?_⟩
    refine anyT_done (by kernel_rfl) ?_
    go_wp2_with fail
    have PV := block_cell pV
    have hwV : Below w.heap.size w V := hwX.trans (hbV.below hwX.size (fun k hk e => by omega))
    exact bodyPost_ret (v := .tuple #[.agg #[.int .u16 g4, .int .u16 g4], .int .i64 0]) (by simp [results, Tryz.results83, go_sem, PV]) rfl ⟨hwV, .inl ⟨HE.out, by rw [HG4.out]⟩⟩
  · have HE := hide he
    clear he
    have l2 : Later W1 W2 := hb2
    have rX := later_keep l2 rW1
    have hwX : Below w.heap.size w W2 := hb0.trans ((ld.trans (lW1.trans l2)).mono hb0.size)
    refine ⟨But.of l2, ?_⟩
    simp only [Act.put, List.setIfInBounds_toArray, List.set_cons_zero, List.set_cons_succ]
    refine anyT_val (But.pre _) 8 rfl (by kernel_rfl) (by kernel_rfl) (by kernel_rfl) (fun _ _ _ _ h => h) rfl ?_; apply Exists.intro; refine ⟨fun v1 hv1 => ?_, ?_⟩; (· (go_simp; rfl)); simp only [Act.put, List.setIfInBounds_toArray, List.set_cons_zero, List.set_cons_succ]
    refine anyT_val (But.pre _) 9 rfl (by kernel_rfl) (by kernel_rfl) (by kernel_rfl) (fun _ _ _ _ h => h) rfl ?_; apply Exists.intro; refine ⟨fun v1 hv1 => ?_, ?_⟩; (· (go_simp; rfl)); simp only [Act.put, List.setIfInBounds_toArray, List.set_cons_zero, List.set_cons_succ]
    have kX := block_cell rX
    have fX := block_frozen rX
    refine anyT_one 10 rfl (by kernel_rfl) rfl ?_
    unfold Oper.wp
    go_simp
    generalize hV : (W2.setCell ⟨w.heap.size + 1, 0, none⟩ _).setCell ⟨w.heap.size + 1, 1, none⟩ _ = V
    have hV8 : V = putRow W2 (w.heap.size + 1) 0 [.int .u16 0, .int .u16 0] := hV.symm
    have hbV : But (fun b => b = w.heap.size + 1) W2 V := by rw [hV8]; exact putRow_but (E := fun b => b = w.heap.size + 1) (n := w.heap.size + 1) rfl _ _ _ _ (But.refl _ _)
    have pV := putRow_all ([.int .u16 0, .int .u16 0] : List Value) rX rfl
    rw [← hV8] at pV
    clear hV hV8 kX fX
    refine ⟨hbV, ?_⟩
    refine anyT_one 11 rfl (by kernel_rfl) rfl ?_
    unfold Oper.wp
    go_simp
    refine ⟨But.refl _ _, ?_⟩
    refine anyT_done (by kernel_rfl) ?_
    go_wp2_with fail
    have PV := block_cell pV
    have hwV : Below w.heap.size w V := hwX.trans (hbV.below hwX.size (fun k hk e => by omega))
    exact bodyPost_ret (v := .tuple #[.agg #[.int .u16 0, .int .u16 0], .int .i64 12]) (by simp [results, Tryz.results83, go_sem, PV]) rfl ⟨hwV, .inr ⟨HE.out, rfl⟩⟩

set_option maxHeartbeats 4000000 in
theorem ofBegin_any (x0 x1 x2 x3 x4 x5 x6 x7 : Int) (w : World) (hT : Tb w) (hBx : Mt.By [x0, x1, x2, x3, x4, x5, x6, x7]) :
    Calls Tryz.prog 85 #[.agg #[.int .u8 x0, .int .u8 x1, .int .u8 x2, .int .u8 x3, .int .u8 x4, .int .u8 x5, .int .u8 x6, .int .u8 x7]] w fun e w' => Below w.heap.size w w' ∧ ((pge 47 [x0, x1, x2, x3, x4, x5, x6, x7] = 4 ∧ e = .returned (.tuple #[.agg #[.int .u16 0, .int .u16 0], .int .i64 4])) ∨ (pge 47 [x0, x1, x2, x3, x4, x5, x6, x7] ≠ 4 ∧ e = .returned (.tuple #[.agg #[.int .u16 0, .int .u16 (getAt2 [x0, x1, x2, x3, x4, x5, x6, x7] 6)], .int .i64 0]))) := by
  have hb0 : Below w.heap.size w ((w.alloc (.cells #[.int .u8 x0, .int .u8 x1, .int .u8 x2, .int .u8 x3, .int .u8 x4, .int .u8 x5, .int .u8 x6, .int .u8 x7] 94)).alloc (.cells #[.int .u16 0, .int .u16 0] 92)) := ((Below.refl _ _).alloc (Nat.le_refl _) _).alloc (by simp) _
  have p0 : ((w.alloc (.cells #[.int .u8 x0, .int .u8 x1, .int .u8 x2, .int .u8 x3, .int .u8 x4, .int .u8 x5, .int .u8 x6, .int .u8 x7] 94)).alloc (.cells #[.int .u16 0, .int .u16 0] 92)).heap[w.heap.size]? = some (.cells #[.int .u8 x0, .int .u8 x1, .int .u8 x2, .int .u8 x3, .int .u8 x4, .int .u8 x5, .int .u8 x6, .int .u8 x7] 94) := (Below.heap_alloc _ _ _ (by simp)).trans (heap_alloc_new w _)
  have r0 := heap_alloc_new (w.alloc (.cells #[.int .u8 x0, .int .u8 x1, .int .u8 x2, .int .u8 x3, .int .u8 x4, .int .u8 x5, .int .u8 x6, .int .u8 x7] 94)) (.cells #[.int .u16 0, .int .u16 0] 92)
  rw [World.size_alloc] at r0
  have P0 := hide p0
  have R0 := hide r0
  clear r0 p0
  have hB : Mt.By [x0, x1, x2, x3, x4, x5, x6, x7] := hBx
  go_enter Tryz.func85, Tryz.ntmps85
  go_wp2_with fail
  generalize ((w.alloc (.cells #[.int .u8 x0, .int .u8 x1, .int .u8 x2, .int .u8 x3, .int .u8 x4, .int .u8 x5, .int .u8 x6, .int .u8 x7] 94)).alloc (.cells #[.int .u16 0, .int .u16 0] 92)) = w0 at *
  refine (parseGre_any 0 0 0 47 0 0 false _ _ [x0, x1, x2, x3, x4, x5, x6, x7] w0 (hT.below hb0 hT.pos) hB (rd8 P0.out) (by simp)).mono ?_
  rintro e w1 ⟨hb1, ⟨hf, rfl⟩ | ⟨hf, a1, c1, rfl, hO⟩⟩
  · rw [show zf.toArray = #[.int .u16 0, .bool false, .bool false, .int .u32 0, .int .u32 0, .slice none 0 0] from rfl]
    generalize hpg : pge 47 [x0, x1, x2, x3, x4, x5, x6, x7] = f at *
    have HPG : Hid (pge 47 [x0, x1, x2, x3, x4, x5, x6, x7] = f) := hpg
    clear hpg hf
    skip
    by_cases h4 : f = 4
    · skip
      have ne : (f == 4) = true := by simp [h4]
      have H4 := hide h4
      clear h4
      have l1 : Later w0 w1 := hb1
      have la : Later w1 (w1.alloc (.cells #[.int .u16 0, .bool false, .bool false, .int .u32 0, .int .u32 0, .slice none 0 0] 71)) := (Below.refl _ _).alloc (Nat.le_refl _) _
      have rX := later_keep (l1.trans la) R0.out
      have hwX := hb0.trans ((l1.trans la).mono hb0.size)
      have kX := block_cell rX
      have fX := block_frozen rX
      go_wp2_with fail
      clear ne
      generalize w1.alloc (.cells #[.int .u16 0, .bool false, .bool false, .int .u32 0, .int .u32 0, .slice none 0 0] 71) = W at *
      generalize hV : (W.setCell ⟨w.heap.size + 1, 0, none⟩ _).setCell ⟨w.heap.size + 1, 1, none⟩ _ = V
      have hV8 : V = putRow W (w.heap.size + 1) 0 [.int .u16 0, .int .u16 0] := hV.symm
      have hbV : But (fun b => b = w.heap.size + 1) W V := by rw [hV8]; exact putRow_but (E := fun b => b = w.heap.size + 1) (n := w.heap.size + 1) rfl _ _ _ _ (But.refl _ _)
      have pV := putRow_all ([.int .u16 0, .int .u16 0] : List Value) rX rfl
      rw [← hV8] at pV
      clear hV hV8 kX fX
      have PV := block_cell pV
      have hwV : Below w.heap.size w V := hwX.trans (hbV.below hwX.size (fun k hk e => by omega))
      exact bodyPost_ret (v := .tuple #[.agg #[.int .u16 0, .int .u16 0], .int .i64 f]) (by simp [results, Tryz.results85, go_sem, PV]) rfl ⟨hwV, .inl ⟨HPG.out.trans H4.out, by rw [H4.out]⟩⟩
    · have HN4 := hide h4
      have ne : (f == 4) = false := by simp [h4]
      clear h4
      have l1 : Later w0 w1 := hb1
      have la : Later w1 (w1.alloc (.cells #[.int .u16 0, .bool false, .bool false, .int .u32 0, .int .u32 0, .slice none 0 0] 71)) := (Below.refl _ _).alloc (Nat.le_refl _) _
      have pW := later_keep (l1.trans la) P0.out
      have rW := later_keep (l1.trans la) R0.out
      have hwW := hb0.trans ((l1.trans la).mono hb0.size)
      go_wp2_with fail
      clear ne
      generalize w1.alloc (.cells #[.int .u16 0, .bool false, .bool false, .int .u32 0, .int .u32 0, .slice none 0 0] 71) = W at *
      refine (get16_at _ [x0, x1, x2, x3, x4, x5, x6, x7] hB 6 W (rd8 pW)).mono ?_
      rintro e W2 ⟨rfl, n2, e2⟩
      have l2 : Later W W2 := by rw [e2]; exact below_draw (Later.refl W) n2
      clear e2
      have rX := later_keep l2 rW
      have hwX := hwW.trans (l2.mono hwW.size)
      generalize hg6 : getAt2 [x0, x1, x2, x3, x4, x5, x6, x7] 6 = g6 at *
      have HG6 := hide hg6
      clear hg6
      have kX := block_cell rX
      have fX := block_frozen rX
      go_wp2_with fail
      generalize hV : (W2.setCell ⟨w.heap.size + 1, 0, none⟩ _).setCell ⟨w.heap.size + 1, 1, none⟩ _ = V
      have hV8 : V = putRow W2 (w.heap.size + 1) 0 [.int .u16 0, .int .u16 g6] := hV.symm
      have hbV : But (fun b => b = w.heap.size + 1) W2 V := by rw [hV8]; exact putRow_but (E := fun b => b = w.heap.size + 1) (n := w.heap.size + 1) rfl _ _ _ _ (But.refl _ _)
      have pV := putRow_all ([.int .u16 0, .int .u16 g6] : List Value) rX rfl
      rw [← hV8] at pV
      clear hV hV8 kX fX
      have PV := block_cell pV
      have hwV : Below w.heap.size w V := hwX.trans (hbV.below hwX.size (fun k hk e => by omega))
      exact bodyPost_ret (v := .tuple #[.agg #[.int .u16 0, .int .u16 g6], .int .i64 0]) (by simp [results, Tryz.results85, go_sem, PV]) rfl ⟨hwV, .inr ⟨by rw [HPG.out]; exact HN4.out, by rw [HG6.out]⟩⟩
  · have HPG := hide hf
    clear hf hO
    have l1 : Later w0 w1 := hb1
    generalize hB1 : ghs (bgz [x0, x1, x2, x3, x4, x5, x6, x7]) = y1 at *
    generalize hB2 : gha (bgz [x0, x1, x2, x3, x4, x5, x6, x7]) = y2 at *
    generalize hB3 : gsq (bgz [x0, x1, x2, x3, x4, x5, x6, x7]) [x0, x1, x2, x3, x4, x5, x6, x7] = y3 at *
    generalize hB4 : gak (bgz [x0, x1, x2, x3, x4, x5, x6, x7]) [x0, x1, x2, x3, x4, x5, x6, x7] = y4 at *
    generalize hB5 : [x0, x1, x2, x3, x4, x5, x6, x7].length - ghd (bgz [x0, x1, x2, x3, x4, x5, x6, x7]) = y5 at *
    clear hB1 hB2 hB3 hB4 hB5
    have la : Later w1 (w1.alloc (.cells #[.int .u16 (getAt2 [x0, x1, x2, x3, x4, x5, x6, x7] 6), .bool y1, .bool y2, .int .u32 y3, .int .u32 y4, .slice a1 y5 c1] 71)) := (Below.refl _ _).alloc (Nat.le_refl _) _
    have pW := later_keep (l1.trans la) P0.out
    have rW := later_keep (l1.trans la) R0.out
    have hwW := hb0.trans ((l1.trans la).mono hb0.size)
    go_wp2_with fail
    generalize w1.alloc (.cells #[.int .u16 (getAt2 [x0, x1, x2, x3, x4, x5, x6, x7] 6), .bool y1, .bool y2, .int .u32 y3, .int .u32 y4, .slice a1 y5 c1] 71) = W at *
    refine (get16_at _ [x0, x1, x2, x3, x4, x5, x6, x7] hB 6 W (rd8 pW)).mono ?_
    rintro e W2 ⟨rfl, n2, e2⟩
    have l2 : Later W W2 := by rw [e2]; exact below_draw (Later.refl W) n2
    clear e2
    have rX := later_keep l2 rW
    have hwX := hwW.trans (l2.mono hwW.size)
    generalize hg6 : getAt2 [x0, x1, x2, x3, x4, x5, x6, x7] 6 = g6 at *
    have HG6 := hide hg6
    clear hg6
    have kX := block_cell rX
    have fX := block_frozen rX
    go_wp2_with fail
    generalize hV : (W2.setCell ⟨w.heap.size + 1, 0, none⟩ _).setCell ⟨w.heap.size + 1, 1, none⟩ _ = V
    have hV8 : V = putRow W2 (w.heap.size + 1) 0 [.int .u16 0, .int .u16 g6] := hV.symm
    have hbV : But (fun b => b = w.heap.size + 1) W2 V := by rw [hV8]; exact putRow_but (E := fun b => b = w.heap.size + 1) (n := w.heap.size + 1) rfl _ _ _ _ (But.refl _ _)
    have pV := putRow_all ([.int .u16 0, .int .u16 g6] : List Value) rX rfl
    rw [← hV8] at pV
    clear hV hV8 kX fX
    have PV := block_cell pV
    have hwV : Below w.heap.size w V := hwX.trans (hbV.below hwX.size (fun k hk e => by omega))
    exact bodyPost_ret (v := .tuple #[.agg #[.int .u16 0, .int .u16 g6], .int .i64 0]) (by simp [results, Tryz.results85, go_sem, PV]) rfl ⟨hwV, .inr ⟨by rw [HPG.out]; decide, by rw [HG6.out]⟩⟩
end Go.Proofs.YtdabhbadcbnkhaaGreatDoor

/- Package ipv4's read: what it hands back of bytes; a refusal is caught. -/
namespace Go.Proofs.YtdabhbadcbnkhaaGreatDoor
open Go.RowKit Go.Shelf
set_option maxRecDepth 100000
set_option linter.unusedVariables false
set_option linter.unusedSimpArgs false

/-- A packet of nothing. -/
abbrev zc : List Value := [.int .u8 0, .int .u16 0, .bool false, .int .u8 0, .int .u8 0, .int .u32 0, .int .u32 0, .slice none 0 0, .slice none 0 0]

theorem catch_idle (pb eb : Nat) (w : World) :
    CallsD Tryz.prog 104 #[.pointer (some ⟨pb, 0, none⟩), .pointer (some ⟨eb, 0, none⟩)] .returning w fun e u' w' => e = .returned (.tuple #[]) ∧ u' = .returning ∧ w' = w := by
  refine callsD_of_wpS Tryz.func104 rfl fun c₀ cs hu => ?_
  apply wpS_seq
  apply wpS_region
  simp [wpOpsS, go_sem, recoverD, hu, Tryz.ntmps104, Exit.thenS]
  refine wpS_of_wp ?_
  go_wp2
  cases c₀
  simp_all [bodyPostS, results, Tryz.results104]

theorem ta_yes (c : Int) (w : World) : (Instr.typeAssert (rfs c) 20 132 true).run Tryz.prog w = .ok (.tuple #[.agg #[.int .i64 c], .bool true]) w := by kernel_rfl

set_option maxHeartbeats 1000000 in
theorem catch_refused (n pb eb : Nat) (c x : Int) (cur : Array Value) (w : World) (hp : w.heap[pb]? = some (.cells cur 26 (0, 0))) (hs : cur.size = 9) (he : w.heap[eb]? = some (.cells #[.int .i64 x] 30 (0, 0))) (hpe : pb ≠ eb) (hn : n ≤ pb) (hn2 : n ≤ eb) :
    CallsD Tryz.prog 104 #[.pointer (some ⟨pb, 0, none⟩), .pointer (some ⟨eb, 0, none⟩)] (.panicking (rfp c)) w fun e u' w' =>
      e = .returned (.tuple #[]) ∧ u' = .panicking [{ v := rfs c, recovered := true }] ∧ w'.heap[pb]? = some (.cells zc.toArray 26 (0, 0)) ∧ w'.heap[eb]? = some (.cells #[.int .i64 c] 30 (0, 0)) ∧ Below n w w' := by
  have hpl := (Array.getElem?_eq_some_iff.1 hp).1
  have hel := (Array.getElem?_eq_some_iff.1 he).1
  refine callsD_of_wpS Tryz.func104 rfl fun c₀ cs hu => ?_
  apply wpS_seq
  apply wpS_region
  simp [wpOpsS, go_sem, recoverD, hu, Tryz.ntmps104, Exit.thenS]
  simp only [Array.replicate_succ, Array.replicate_zero, List.push_toArray, List.append_toArray, List.nil_append, List.cons_append, List.setIfInBounds_toArray, List.set_cons_zero, List.set_cons_succ]
  have hta := ta_yes c
  refine wpS_of_wp ?_
  go_wp2
  have hb0 : Later w (w.alloc (.cells #[.int .i64 c] 132)) := (Below.refl _ _).alloc (Nat.le_refl _) _
  have q3 : (w.alloc (.cells #[.int .i64 c] 132)).cell? ⟨w.heap.size, 0, none⟩ = some (.int .i64 c) := cell_new w _ _ 0
  have hp0 := (hb0.block pb hpl).trans hp
  have he0 := (hb0.block eb hel).trans he
  have hwp : w.heap.size ≠ pb := by omega
  have hwe : w.heap.size ≠ eb := by omega
  have hpw : ¬ pb = w.heap.size := by omega
  have hew : ¬ eb = w.heap.size := by omega
  generalize w.alloc (.cells #[.int .i64 c] 132) = W0 at *
  have k6 : ∀ j, W0.cell? ⟨pb, j, none⟩ = cur[j]? := block_cell hp0
  have f6 : ∀ j, W0.frozen? ⟨pb, j, none⟩ = false := block_frozen hp0
  have k7 : ∀ j, W0.cell? ⟨eb, j, none⟩ = #[Value.int .i64 x][j]? := block_cell he0
  have f7 : ∀ j, W0.frozen? ⟨eb, j, none⟩ = false := block_frozen he0
  go_region
  all_goals
    generalize hV7 : ((((((((W0.setCell ⟨pb, 0, none⟩ _).setCell ⟨pb, 1, none⟩ _).setCell ⟨pb, 2, none⟩ _).setCell ⟨pb, 3, none⟩ _).setCell ⟨pb, 4, none⟩ _).setCell ⟨pb, 5, none⟩ _).setCell ⟨pb, 6, none⟩ _).setCell ⟨pb, 7, none⟩ _).setCell ⟨pb, 8, none⟩ _ = V7
    have hV8 : V7 = putRow W0 pb 0 zc := hV7.symm
    have hbp : But (fun b => b = pb) W0 V7 := by rw [hV8]; exact putRow_but (E := fun b => b = pb) (n := pb) rfl zc 0 W0 W0 (But.refl _ _)
    have hP := putRow_all zc hp0 hs
    rw [← hV8] at hP
    clear hV7 hV8
    have hE := heap_set1 ((hbp.block eb (Nat.lt_of_lt_of_le hel hb0.size) (fun e => hpe e.symm)).trans he0) 0 (.int .i64 c)
    have hP2 := (Below.heap_setCell V7 ⟨eb, 0, none⟩ (.int .i64 c) pb hpe).trans hP
    have hB2 : Below n w ((V7.setCell ⟨eb, 0, none⟩ (.int .i64 c)).drew) := (((hb0.mono (by omega)).trans (hbp.below (Nat.le_trans (Nat.le_trans hn (Nat.le_of_lt hpl)) hb0.size) (fun k h e => by omega))).setCell (p := ⟨eb, 0, none⟩) hn2 _).drew
    refine ⟨rfl, _, rfl, .tuple #[], by simp [results, Tryz.results104], rfl, rfl, hP2, hE, hB2⟩

abbrev dfr (pb : Nat) : List Deferred := [{ target := .fn (.func 104) #[.pointer (some ⟨pb, 0, none⟩), .pointer (some ⟨pb + 1, 0, none⟩)], args := #[] }]

theorem res_read (tm : Array Value) (pb : Nat) (c : Int) (v0 v1 v2 v3 v4 v5 v6 v7 v8 : Value) (w : World) (h4 : tm[4]? = some (.pointer (some ⟨pb, 0, none⟩))) (h5 : tm[5]? = some (.pointer (some ⟨pb + 1, 0, none⟩)))
    (hp : w.heap[pb]? = some (.cells #[v0, v1, v2, v3, v4, v5, v6, v7, v8] 26 (0, 0))) (he : w.heap[pb + 1]? = some (.cells #[.int .i64 c] 30 (0, 0))) :
    (results Tryz.f78 tm).run Tryz.prog w = .ok (.tuple #[.agg #[v0, v1, v2, v3, v4, v5, v6, v7, v8], .int .i64 c]) w := by
  have kP := block_cell hp
  have kE := block_cell he
  simp [results, Tryz.results78, go_sem, h4, h5, kP, kE]

theorem door_refused {R : Ending → World → Prop} (tm : Array Value) (n pb : Nat) (c x : Int) (cur : Array Value) (w : World) (hp : w.heap[pb]? = some (.cells cur 26 (0, 0))) (hs : cur.size = 9) (he : w.heap[pb + 1]? = some (.cells #[.int .i64 x] 30 (0, 0))) (hn : n ≤ pb)
    (h4 : tm[4]? = some (.pointer (some ⟨pb, 0, none⟩))) (h5 : tm[5]? = some (.pointer (some ⟨pb + 1, 0, none⟩)))
    (hR : ∀ w', Below n w w' → R (.returned (.tuple #[.agg zc.toArray, .int .i64 c])) w') :
    bodyPostD Tryz.prog Tryz.f78 R (.panic (rfp c)) { tmps := tm, defers := dfr pb } w := by
  refine leaves_cons (f := 104) (args := #[.pointer (some ⟨pb, 0, none⟩), .pointer (some ⟨pb + 1, 0, none⟩)]) (by simp) (by simp [go_sem]) ?_
  refine (catch_refused n pb (pb + 1) c x cur w hp hs he (by omega) hn (by omega)).mono ?_
  rintro e u' w'' ⟨rfl, rfl, hP, hE, hb⟩
  exact ⟨_, res_read tm pb c _ _ _ _ _ _ _ _ _ w'' h4 h5 hP hE, hR w'' hb⟩

theorem door_idle {R : Ending → World → Prop} (tm : Array Value) (pb : Nat) (c : Int) (v0 v1 v2 v3 v4 v5 v6 v7 v8 : Value) (w : World)
    (hp : w.heap[pb]? = some (.cells #[v0, v1, v2, v3, v4, v5, v6, v7, v8] 26 (0, 0))) (he : w.heap[pb + 1]? = some (.cells #[.int .i64 c] 30 (0, 0)))
    (h4 : tm[4]? = some (.pointer (some ⟨pb, 0, none⟩))) (h5 : tm[5]? = some (.pointer (some ⟨pb + 1, 0, none⟩)))
    (hR : R (.returned (.tuple #[.agg #[v0, v1, v2, v3, v4, v5, v6, v7, v8], .int .i64 c])) w) :
    bodyPostD Tryz.prog Tryz.f78 R .ret { tmps := tm, defers := dfr pb } w := by
  refine leaves_cons (f := 104) (args := #[.pointer (some ⟨pb, 0, none⟩), .pointer (some ⟨pb + 1, 0, none⟩)]) (by simp) (by simp [go_sem]) ?_
  refine (catch_idle pb (pb + 1) w).mono ?_
  rintro e u' w'' ⟨rfl, rfl, rfl⟩
  exact ⟨_, res_read tm pb c _ _ _ _ _ _ _ _ _ w'' h4 h5 hp he, hR⟩

/-- How many bytes in all; what is wrong. -/
def ral (q : Bool) (zs : List Int) : Int := if q then min (wat zs 2) zs.length else wat zs 2
def rde (q : Bool) (zs : List Int) : Int :=
  if msr zs ≠ 0 then msr zs else if (zs.length : Int) < ral q zs then 3 else if chk zs ≠ 0 then chk zs else if q = true ∧ ral q zs - hl4 zs < 8 then 3 else 0

set_option maxHeartbeats 4000000 in
theorem read_any (q : Bool) (sv : Value) (zs : List Int) (w : World) (hB : Mt.By zs) (hl : zs.length ≤ 225000000000000) (hI : Rd w.heap.size w sv zs) :
    Calls Tryz.prog 78 #[sv, .bool q] w fun e w' => Below w.heap.size w w' ∧
      ((rde q zs ≠ 0 ∧ e = .returned (.tuple #[.agg zc.toArray, .int .i64 (rde q zs)])) ∨
       (rde q zs = 0 ∧ ∃ so sd, e = .returned (.tuple #[pkt zs so sd, .int .i64 0]) ∧ Ow w.heap.size w' so ((zs.take (hl4 zs).toNat).drop 20) ∧ Ow w.heap.size w' sd ((zs.take (ral q zs).toNat).drop (hl4 zs).toNat))) := by
  have hmf : ∀ (fn : Fn) (first cap : Array Value) (w : World), (Instr.makeFunc fn first cap).run Tryz.prog w = .ok (.func fn first cap) w := fun _ _ _ _ => rfl
  obtain ⟨a, cap, rfl, hl1, hm1⟩ := hI.slice
  have HM : Hid (rde q zs = if msr zs ≠ 0 then msr zs else if (zs.length : Int) < ral q zs then 3 else if chk zs ≠ 0 then chk zs else if q = true ∧ ral q zs - hl4 zs < 8 then 3 else 0) := rfl
  generalize rde q zs = m at *
  go_enter_defers Tryz.func78, Tryz.ntmps78
  go_wp2_with fail
  have a1 := heap_alloc_new w (.cells zc.toArray 26)
  have s1 : (w.alloc (.cells zc.toArray 26)).heap.size = w.heap.size + 1 := by simp
  have hb1 : Below w.heap.size w (w.alloc (.cells zc.toArray 26)) := (Below.refl _ _).alloc (Nat.le_refl _) _
  generalize w.alloc (.cells zc.toArray 26) = W1 at *
  have a2 := heap_alloc_new W1 (.cells #[.int .i64 0] 30)
  rw [s1] at a2
  have l2 : Later W1 (W1.alloc (.cells #[.int .i64 0] 30)) := (Below.refl _ _).alloc (Nat.le_refl _) _
  have a3 := (l2.block _ (by omega)).trans a1
  have s2 : (W1.alloc (.cells #[.int .i64 0] 30)).heap.size = w.heap.size + 1 + 1 := by simp [s1]
  generalize W1.alloc (.cells #[.int .i64 0] 30) = W2 at *
  have a4 := heap_alloc_new W2 (.cells #[.int .i64 0, .int .i64 0, .slice a zs.length cap] 136)
  rw [s2] at a4
  have l3 : Later W2 (W2.alloc (.cells #[.int .i64 0, .int .i64 0, .slice a zs.length cap] 136)) := (Below.refl _ _).alloc (Nat.le_refl _) _
  have a5 := (l3.block _ (by omega)).trans a2
  have a6 := (l3.block _ (by omega)).trans a3
  have s3 : (W2.alloc (.cells #[.int .i64 0, .int .i64 0, .slice a zs.length cap] 136)).heap.size = w.heap.size + 1 + 1 + 1 := by simp [s2]
  generalize W2.alloc (.cells #[.int .i64 0, .int .i64 0, .slice a zs.length cap] 136) = W3 at *
  have hb3 := (hb1.trans (l2.mono (by omega))).trans (l3.mono (by omega))
  clear a1 a2 a3 l2 l3 hb1 s1 s2
  refine (measure_any w.heap.size (w.heap.size + 1 + 1) 0 0 _ zs W3 hB hl (hI.below hb3) (by omega) (block_cell a4 0) (block_cell a4 1) (block_cell a4 2) (block_frozen a4 0) (block_frozen a4 1)).mono ?_
  rintro e w4 ⟨hb4, ⟨h1, rfl⟩ | ⟨h1, rfl, k0, k1, k2, f1⟩⟩
  · have := HM.out
    rw [if_pos h1] at this
    subst this
    exact door_refused _ w.heap.size w.heap.size _ 0 _ w4 ((hb4.block _ (by omega)).trans a6) rfl ((hb4.block _ (by omega)).trans a5) (Nat.le_refl _) rfl rfl (fun w' hb' => ⟨(hb3.trans (hb4.mono (by omega))).trans hb', .inl ⟨h1, rfl⟩⟩)
  have hfit : 20 ≤ hl4 zs ∧ hl4 zs ≤ zs.length ∧ hl4 zs ≤ wat zs 2 ∧ 20 ≤ zs.length := by
    unfold msr at h1
    split at h1
    · omega
    · split at h1
      · omega
      · split at h1
        · omega
        · split at h1
          · omega
          · split at h1 <;> omega
  have hn2 := wat_bd hB 2
  cases q
  · go_wp2_with fail
    by_cases h2 : (zs.length : Int) < wat zs 2
    · rw [show decide ((zs.length : Int) < wat zs 2) = true from by simpa using h2]
      refine (refuse_yes 3 _).mono ?_
      rintro e w' ⟨rfl, rfl⟩
      have := HM.out
      rw [if_neg (by simp [h1]), if_pos (by simpa [ral] using h2)] at this
      subst this
      exact door_refused _ w.heap.size w.heap.size _ 0 _ w4 ((hb4.block _ (by omega)).trans a6) rfl ((hb4.block _ (by omega)).trans a5) (Nat.le_refl _) rfl rfl (fun w' hb' => ⟨(hb3.trans (hb4.mono (by omega))).trans hb', .inl ⟨by omega, rfl⟩⟩)
    rw [show decide ((zs.length : Int) < wat zs 2) = false from by simpa using h2]
    refine (refuse_no 3 _).mono ?_
    rintro e w' ⟨rfl, rfl⟩
    have hb5 := hb4
    have K0 := k0
    have K1 := k1
    have K2 := k2
    clear hb4 k0 k1 k2
    have hz5 := hb5.size
    go_wp2_with fail
    refine (check_any (w.heap.size + 1 + 1) _ zs w4 hB hl ((hI.below (hb3.trans (hb5.mono (by omega)))).mono (by omega)) hfit.1 hfit.2.1 K0 K2).mono ?_
    rintro e w6 ⟨l6, ⟨h3, rfl⟩ | ⟨h3, rfl⟩⟩
    · have := HM.out
      rw [if_neg (by simp [h1]), if_neg (by simp [ral]; omega), if_pos h3] at this
      subst this
      exact door_refused _ w.heap.size w.heap.size _ 0 _ w6 ((l6.block _ (by omega)).trans ((hb5.block _ (by omega)).trans a6)) rfl ((l6.block _ (by omega)).trans ((hb5.block _ (by omega)).trans a5)) (Nat.le_refl _) rfl rfl (fun w' hb' => ⟨((hb3.trans (hb5.mono (by omega))).trans (l6.mono (by omega))).trans hb', .inl ⟨h3, rfl⟩⟩)
    obtain ⟨k, hk⟩ := Int.eq_ofNat_of_zero_le (show 0 ≤ hl4 zs by omega)
    obtain ⟨n, hn⟩ := Int.eq_ofNat_of_zero_le (show 0 ≤ wat zs 2 by omega)
    rw [hk] at K0
    rw [hn] at K1
    have c6 := l6.cell K0
    have d6 := l6.cell K1
    have e6 := l6.cell K2
    have p6 := (l6.block _ (by omega)).trans ((hb5.block _ (by omega)).trans a6)
    have q6 := (l6.block _ (by omega)).trans ((hb5.block _ (by omega)).trans a5)
    have hb6 := hb5.trans (l6.mono (by omega))
    have HK := hide hk
    have HN := hide hn
    have hkn : 20 ≤ k ∧ k ≤ n ∧ n ≤ zs.length ∧ n ≤ 65535 := by omega
    clear hk hn
    go_wp2_with fail
    refine (packet_any (w.heap.size + 1 + 1) _ zs k n w6 hB hl ((hI.below (hb3.trans (hb6.mono (by omega)))).mono (Nat.le_trans hb3.size hb6.size)) hkn.1 hkn.2.1 hkn.2.2.1 hkn.2.2.2 c6 d6 e6).mono ?_
    rintro e w7 ⟨so, sd, rfl, hOo, hOd, l7⟩
    have p7 := (l7.block _ (Array.getElem?_eq_some_iff.1 p6).1).trans p6
    have q7 := (l7.block _ (Array.getElem?_eq_some_iff.1 q6).1).trans q6
    have hb7 := hb6.trans (l7.mono (Nat.le_trans (by omega) hb6.size))
    obtain ⟨aso, cso, rfl, _, _⟩ := hOo.slice
    obtain ⟨asd, csd, rfl, _, _⟩ := hOd.slice
    have hlo : ((zs.take k).drop 20).length = min k zs.length - 20 := by simp
    have hld : ((zs.take n).drop k).length = n - k := by simp; omega
    rw [hlo] at hOo ⊢
    rw [hld] at hOd ⊢
    clear hlo hld
    have P7 := block_cell p7
    have F7 := block_frozen p7
    unfold pkt
    go_wp2_with fail
    clear P7 F7
    generalize hV8 : ((((((((w7.setCell ⟨w.heap.size, 0, none⟩ _).setCell ⟨w.heap.size, 1, none⟩ _).setCell ⟨w.heap.size, 2, none⟩ _).setCell ⟨w.heap.size, 3, none⟩ _).setCell ⟨w.heap.size, 4, none⟩ _).setCell ⟨w.heap.size, 5, none⟩ _).setCell ⟨w.heap.size, 6, none⟩ _).setCell ⟨w.heap.size, 7, none⟩ _).setCell ⟨w.heap.size, 8, none⟩ _ = V8
    have hV9 : V8 = putRow w7 w.heap.size 0 [.int .u8 (zs[1]?.getD 0), .int .u16 (wat zs 4), .bool (decide (16384 ≤ wat zs 6 % 32768)), .int .u8 (zs[8]?.getD 0), .int .u8 (zs[9]?.getD 0), .int .u32 (wat4 zs 12), .int .u32 (wat4 zs 16), .slice aso (min k zs.length - 20) cso, .slice asd (n - k) csd] := hV8.symm
    have hb8 : But (fun b => b = w.heap.size) w7 V8 := by rw [hV9]; exact putRow_but (E := fun b => b = w.heap.size) (n := w.heap.size) rfl _ _ _ _ (But.refl _ _)
    have p8 := putRow_all [.int .u8 (zs[1]?.getD 0), .int .u16 (wat zs 4), .bool (decide (16384 ≤ wat zs 6 % 32768)), .int .u8 (zs[8]?.getD 0), .int .u8 (zs[9]?.getD 0), .int .u32 (wat4 zs 12), .int .u32 (wat4 zs 16), .slice aso (min k zs.length - 20) cso, .slice asd (n - k) csd] p7 rfl
    rw [← hV9] at p8
    clear hV8 hV9
    have q8 := (hb8.block _ (Array.getElem?_eq_some_iff.1 q7).1 (by omega)).trans q7
    have P8 := block_cell p8
    have F8 := block_frozen p8
    have E8 := block_cell q8
    have G8 := block_frozen q8
    have hs7 : w.heap.size ≤ w7.heap.size := Nat.le_trans hb3.size hb7.size
    have hbW8 := (hb3.trans (hb7.mono (by omega))).trans (hb8.below hs7 (fun j h e => by omega))
    have hOo8 := hOo.but hb8 (fun b h e => by have := hb6.size; omega)
    have hOd8 := hOd.but hb8 (fun b h e => by have := hb6.size; omega)
    refine (refuse_no 3 _).mono ?_
    rintro e w' ⟨rfl, rfl⟩
    go_wp2_with fail
    generalize hV9 : ((((((((V8.setCell ⟨w.heap.size, 0, none⟩ _).setCell ⟨w.heap.size, 1, none⟩ _).setCell ⟨w.heap.size, 2, none⟩ _).setCell ⟨w.heap.size, 3, none⟩ _).setCell ⟨w.heap.size, 4, none⟩ _).setCell ⟨w.heap.size, 5, none⟩ _).setCell ⟨w.heap.size, 6, none⟩ _).setCell ⟨w.heap.size, 7, none⟩ _).setCell ⟨w.heap.size, 8, none⟩ _ = V9
    have hV10 : V9 = putRow V8 w.heap.size 0 [.int .u8 (zs[1]?.getD 0), .int .u16 (wat zs 4), .bool (decide (16384 ≤ wat zs 6 % 32768)), .int .u8 (zs[8]?.getD 0), .int .u8 (zs[9]?.getD 0), .int .u32 (wat4 zs 12), .int .u32 (wat4 zs 16), .slice aso (min k zs.length - 20) cso, .slice asd (n - k) csd] := hV9.symm
    have hb9 : But (fun b => b = w.heap.size) V8 V9 := by rw [hV10]; exact putRow_but (E := fun b => b = w.heap.size) (n := w.heap.size) rfl _ _ _ _ (But.refl _ _)
    have p9 := putRow_all [.int .u8 (zs[1]?.getD 0), .int .u16 (wat zs 4), .bool (decide (16384 ≤ wat zs 6 % 32768)), .int .u8 (zs[8]?.getD 0), .int .u8 (zs[9]?.getD 0), .int .u32 (wat4 zs 12), .int .u32 (wat4 zs 16), .slice aso (min k zs.length - 20) cso, .slice asd (n - k) csd] p8 rfl
    rw [← hV10] at p9
    clear hV9 hV10
    have q9 := (hb9.block _ (Array.getElem?_eq_some_iff.1 q8).1 (by omega)).trans q8
    have q10 := heap_set1 q9 0 (.int .i64 0)
    have p10 := (Below.heap_setCell V9 ⟨w.heap.size + 1, 0, none⟩ (.int .i64 0) w.heap.size (by simp)).trans p9
    have hs8 : w.heap.size ≤ V8.heap.size := Nat.le_trans hs7 hb8.size
    have hb10 : Below w.heap.size w (V9.setCell ⟨w.heap.size + 1, 0, none⟩ (.int .i64 0)) := (hbW8.trans (hb9.below hs8 (fun j h e => by omega))).setCell (p := ⟨w.heap.size + 1, 0, none⟩) (Nat.le_succ _) _
    have hbb : But (fun b => b = w.heap.size ∨ b = w.heap.size + 1) V8 (V9.setCell ⟨w.heap.size + 1, 0, none⟩ (.int .i64 0)) := But.setCell (⟨hb9.os, hb9.tape, hb9.output, hb9.size, fun j hj he => hb9.block j hj (fun e => he (.inl e))⟩) (.inr rfl) _
    have := HM.out
    rw [if_neg (by simp [h1]), if_neg (by simp [ral]; omega), if_neg (by simp [h3]), if_neg (by simp)] at this
    refine door_idle _ w.heap.size 0 _ _ _ _ _ _ _ _ _ _ p10 q10 rfl rfl ⟨hb10, .inr ⟨this, _, _, rfl, ?_, ?_⟩⟩
    · rw [HK.out]
      exact (hOo8.but hbb (fun b h e => by have := hb6.size; omega)).mono (Nat.le_trans hb3.size hb6.size)
    · rw [HK.out, show ral false zs = (n : Int) from by simp [ral]; exact HN.out]
      exact (hOd8.but hbb (fun b h e => by have := hb6.size; omega)).mono (Nat.le_trans hb3.size hb6.size)
  · by_cases hmn : (zs.length : Int) < wat zs 2
    · go_wp2_with fail
      have hb5 : Below (w.heap.size + 1 + 1) W3 (w4.setCell ⟨w.heap.size + 1 + 1, 1, none⟩ (.int .i64 (zs.length : Int))) := hb4.setCell (p := ⟨w.heap.size + 1 + 1, 1, none⟩) (Nat.le_refl _) _
      have K0 : (w4.setCell ⟨w.heap.size + 1 + 1, 1, none⟩ (.int .i64 (zs.length : Int))).cell? ⟨w.heap.size + 1 + 1, 0, none⟩ = some (.int .i64 (hl4 zs)) := (World.cell?_setCell_other _ _ _ _ (by simp)).trans k0
      have K1 : (w4.setCell ⟨w.heap.size + 1 + 1, 1, none⟩ (.int .i64 (zs.length : Int))).cell? ⟨w.heap.size + 1 + 1, 1, none⟩ = some (.int .i64 (zs.length : Int)) := World.cell?_setCell_same _ _ _ k1
      have K2 : (w4.setCell ⟨w.heap.size + 1 + 1, 1, none⟩ (.int .i64 (zs.length : Int))).cell? ⟨w.heap.size + 1 + 1, 2, none⟩ = some (.slice a zs.length cap) := (World.cell?_setCell_other _ _ _ _ (by simp)).trans k2
      generalize w4.setCell ⟨w.heap.size + 1 + 1, 1, none⟩ (.int .i64 (zs.length : Int)) = W5 at *
      clear hb4 k0 k1 k2
      refine (refuse_no 3 _).mono ?_
      rintro e w' ⟨rfl, rfl⟩
      have hz5 := hb5.size
      go_wp2_with fail
      refine (check_any (w.heap.size + 1 + 1) _ zs W5 hB hl ((hI.below (hb3.trans (hb5.mono (by omega)))).mono (by omega)) hfit.1 hfit.2.1 K0 K2).mono ?_
      rintro e w6 ⟨l6, ⟨h3, rfl⟩ | ⟨h3, rfl⟩⟩
      · have := HM.out
        rw [if_neg (by simp [h1]), if_neg (by simp [ral]; omega), if_pos h3] at this
        subst this
        exact door_refused _ w.heap.size w.heap.size _ 0 _ w6 ((l6.block _ (by omega)).trans ((hb5.block _ (by omega)).trans a6)) rfl ((l6.block _ (by omega)).trans ((hb5.block _ (by omega)).trans a5)) (Nat.le_refl _) rfl rfl (fun w' hb' => ⟨((hb3.trans (hb5.mono (by omega))).trans (l6.mono (by omega))).trans hb', .inl ⟨h3, rfl⟩⟩)
      obtain ⟨k, hk⟩ := Int.eq_ofNat_of_zero_le (show 0 ≤ hl4 zs by omega)
      obtain ⟨n, hn⟩ := Int.eq_ofNat_of_zero_le (show 0 ≤ (zs.length : Int) by omega)
      rw [hk] at K0
      rw [hn] at K1
      have c6 := l6.cell K0
      have d6 := l6.cell K1
      have e6 := l6.cell K2
      have p6 := (l6.block _ (by omega)).trans ((hb5.block _ (by omega)).trans a6)
      have q6 := (l6.block _ (by omega)).trans ((hb5.block _ (by omega)).trans a5)
      have hb6 := hb5.trans (l6.mono (by omega))
      have HK := hide hk
      have HN := hide hn
      have hkn : 20 ≤ k ∧ k ≤ n ∧ n ≤ zs.length ∧ n ≤ 65535 := by omega
      clear hk hn
      go_wp2_with fail
      refine (packet_any (w.heap.size + 1 + 1) _ zs k n w6 hB hl ((hI.below (hb3.trans (hb6.mono (by omega)))).mono (Nat.le_trans hb3.size hb6.size)) hkn.1 hkn.2.1 hkn.2.2.1 hkn.2.2.2 c6 d6 e6).mono ?_
      rintro e w7 ⟨so, sd, rfl, hOo, hOd, l7⟩
      have p7 := (l7.block _ (Array.getElem?_eq_some_iff.1 p6).1).trans p6
      have q7 := (l7.block _ (Array.getElem?_eq_some_iff.1 q6).1).trans q6
      have hb7 := hb6.trans (l7.mono (Nat.le_trans (by omega) hb6.size))
      obtain ⟨aso, cso, rfl, _, _⟩ := hOo.slice
      obtain ⟨asd, csd, rfl, _, _⟩ := hOd.slice
      have hlo : ((zs.take k).drop 20).length = min k zs.length - 20 := by simp
      have hld : ((zs.take n).drop k).length = n - k := by simp; omega
      rw [hlo] at hOo ⊢
      rw [hld] at hOd ⊢
      clear hlo hld
      have P7 := block_cell p7
      have F7 := block_frozen p7
      unfold pkt
      go_wp2_with fail
      clear P7 F7
      generalize hV8 : ((((((((w7.setCell ⟨w.heap.size, 0, none⟩ _).setCell ⟨w.heap.size, 1, none⟩ _).setCell ⟨w.heap.size, 2, none⟩ _).setCell ⟨w.heap.size, 3, none⟩ _).setCell ⟨w.heap.size, 4, none⟩ _).setCell ⟨w.heap.size, 5, none⟩ _).setCell ⟨w.heap.size, 6, none⟩ _).setCell ⟨w.heap.size, 7, none⟩ _).setCell ⟨w.heap.size, 8, none⟩ _ = V8
      have hV9 : V8 = putRow w7 w.heap.size 0 [.int .u8 (zs[1]?.getD 0), .int .u16 (wat zs 4), .bool (decide (16384 ≤ wat zs 6 % 32768)), .int .u8 (zs[8]?.getD 0), .int .u8 (zs[9]?.getD 0), .int .u32 (wat4 zs 12), .int .u32 (wat4 zs 16), .slice aso (min k zs.length - 20) cso, .slice asd (n - k) csd] := hV8.symm
      have hb8 : But (fun b => b = w.heap.size) w7 V8 := by rw [hV9]; exact putRow_but (E := fun b => b = w.heap.size) (n := w.heap.size) rfl _ _ _ _ (But.refl _ _)
      have p8 := putRow_all [.int .u8 (zs[1]?.getD 0), .int .u16 (wat zs 4), .bool (decide (16384 ≤ wat zs 6 % 32768)), .int .u8 (zs[8]?.getD 0), .int .u8 (zs[9]?.getD 0), .int .u32 (wat4 zs 12), .int .u32 (wat4 zs 16), .slice aso (min k zs.length - 20) cso, .slice asd (n - k) csd] p7 rfl
      rw [← hV9] at p8
      clear hV8 hV9
      have q8 := (hb8.block _ (Array.getElem?_eq_some_iff.1 q7).1 (by omega)).trans q7
      have P8 := block_cell p8
      have F8 := block_frozen p8
      have E8 := block_cell q8
      have G8 := block_frozen q8
      have hs7 : w.heap.size ≤ w7.heap.size := Nat.le_trans hb3.size hb7.size
      have hbW8 := (hb3.trans (hb7.mono (by omega))).trans (hb8.below hs7 (fun j h e => by omega))
      have hOo8 := hOo.but hb8 (fun b h e => by have := hb6.size; omega)
      have hOd8 := hOd.but hb8 (fun b h e => by have := hb6.size; omega)
      have hw8 : Later w7 w7 := Later.refl _
      by_cases h4 : n - k < 8
      · rw [show decide (((n - k : Nat) : Int) < 8) = true from by simp; omega]
        refine (refuse_yes 3 _).mono ?_
        rintro e w' ⟨rfl, rfl⟩
        have := HM.out
        rw [if_neg (by simp [h1]), if_neg (by simp [ral]; omega), if_neg (by simp [h3]), if_pos ⟨by simp, by have h5 := HK.out; have h6 := HN.out; simp [ral]; omega⟩] at this
        subst this
        exact door_refused _ w.heap.size w.heap.size _ 0 _ V8 p8 rfl q8 (Nat.le_refl _) rfl rfl (fun w' hb' => ⟨hbW8.trans hb', .inl ⟨by omega, rfl⟩⟩)
      rw [show decide (((n - k : Nat) : Int) < 8) = false from by simp; omega]
      refine (refuse_no 3 _).mono ?_
      rintro e w' ⟨rfl, rfl⟩
      go_wp2_with fail
      generalize hV9 : ((((((((V8.setCell ⟨w.heap.size, 0, none⟩ _).setCell ⟨w.heap.size, 1, none⟩ _).setCell ⟨w.heap.size, 2, none⟩ _).setCell ⟨w.heap.size, 3, none⟩ _).setCell ⟨w.heap.size, 4, none⟩ _).setCell ⟨w.heap.size, 5, none⟩ _).setCell ⟨w.heap.size, 6, none⟩ _).setCell ⟨w.heap.size, 7, none⟩ _).setCell ⟨w.heap.size, 8, none⟩ _ = V9
      have hV10 : V9 = putRow V8 w.heap.size 0 [.int .u8 (zs[1]?.getD 0), .int .u16 (wat zs 4), .bool (decide (16384 ≤ wat zs 6 % 32768)), .int .u8 (zs[8]?.getD 0), .int .u8 (zs[9]?.getD 0), .int .u32 (wat4 zs 12), .int .u32 (wat4 zs 16), .slice aso (min k zs.length - 20) cso, .slice asd (n - k) csd] := hV9.symm
      have hb9 : But (fun b => b = w.heap.size) V8 V9 := by rw [hV10]; exact putRow_but (E := fun b => b = w.heap.size) (n := w.heap.size) rfl _ _ _ _ (But.refl _ _)
      have p9 := putRow_all [.int .u8 (zs[1]?.getD 0), .int .u16 (wat zs 4), .bool (decide (16384 ≤ wat zs 6 % 32768)), .int .u8 (zs[8]?.getD 0), .int .u8 (zs[9]?.getD 0), .int .u32 (wat4 zs 12), .int .u32 (wat4 zs 16), .slice aso (min k zs.length - 20) cso, .slice asd (n - k) csd] p8 rfl
      rw [← hV10] at p9
      clear hV9 hV10
      have q9 := (hb9.block _ (Array.getElem?_eq_some_iff.1 q8).1 (by omega)).trans q8
      have q10 := heap_set1 q9 0 (.int .i64 0)
      have p10 := (Below.heap_setCell V9 ⟨w.heap.size + 1, 0, none⟩ (.int .i64 0) w.heap.size (by simp)).trans p9
      have hs8 : w.heap.size ≤ V8.heap.size := Nat.le_trans hs7 hb8.size
      have hb10 : Below w.heap.size w (V9.setCell ⟨w.heap.size + 1, 0, none⟩ (.int .i64 0)) := (hbW8.trans (hb9.below hs8 (fun j h e => by omega))).setCell (p := ⟨w.heap.size + 1, 0, none⟩) (Nat.le_succ _) _
      have hbb : But (fun b => b = w.heap.size ∨ b = w.heap.size + 1) V8 (V9.setCell ⟨w.heap.size + 1, 0, none⟩ (.int .i64 0)) := But.setCell (⟨hb9.os, hb9.tape, hb9.output, hb9.size, fun j hj he => hb9.block j hj (fun e => he (.inl e))⟩) (.inr rfl) _
      have := HM.out
      rw [if_neg (by simp [h1]), if_neg (by simp [ral]; omega), if_neg (by simp [h3]), if_neg (by have h5 := HK.out; have h6 := HN.out; simp [ral]; omega)] at this
      refine door_idle _ w.heap.size 0 _ _ _ _ _ _ _ _ _ _ p10 q10 rfl rfl ⟨hb10, .inr ⟨this, _, _, rfl, ?_, ?_⟩⟩
      · rw [HK.out]
        exact (hOo8.but hbb (fun b h e => by have := hb6.size; omega)).mono (Nat.le_trans hb3.size hb6.size)
      · rw [HK.out, show ral true zs = (n : Int) from by simp [ral]; have h6 := HN.out; omega]
        exact (hOd8.but hbb (fun b h e => by have := hb6.size; omega)).mono (Nat.le_trans hb3.size hb6.size)
    · go_wp2_with fail
      rw [show decide ((zs.length : Int) < wat zs 2) = false from by simpa using hmn]
      have hb5 : Below (w.heap.size + 1 + 1) W3 (w4.setCell ⟨w.heap.size + 1 + 1, 1, none⟩ (.int .i64 (wat zs 2))) := hb4.setCell (p := ⟨w.heap.size + 1 + 1, 1, none⟩) (Nat.le_refl _) _
      have K0 : (w4.setCell ⟨w.heap.size + 1 + 1, 1, none⟩ (.int .i64 (wat zs 2))).cell? ⟨w.heap.size + 1 + 1, 0, none⟩ = some (.int .i64 (hl4 zs)) := (World.cell?_setCell_other _ _ _ _ (by simp)).trans k0
      have K1 : (w4.setCell ⟨w.heap.size + 1 + 1, 1, none⟩ (.int .i64 (wat zs 2))).cell? ⟨w.heap.size + 1 + 1, 1, none⟩ = some (.int .i64 (wat zs 2)) := World.cell?_setCell_same _ _ _ k1
      have K2 : (w4.setCell ⟨w.heap.size + 1 + 1, 1, none⟩ (.int .i64 (wat zs 2))).cell? ⟨w.heap.size + 1 + 1, 2, none⟩ = some (.slice a zs.length cap) := (World.cell?_setCell_other _ _ _ _ (by simp)).trans k2
      generalize w4.setCell ⟨w.heap.size + 1 + 1, 1, none⟩ (.int .i64 (wat zs 2)) = W5 at *
      clear hb4 k0 k1 k2
      refine (refuse_no 3 _).mono ?_
      rintro e w' ⟨rfl, rfl⟩
      have hz5 := hb5.size
      go_wp2_with fail
      refine (check_any (w.heap.size + 1 + 1) _ zs W5 hB hl ((hI.below (hb3.trans (hb5.mono (by omega)))).mono (by omega)) hfit.1 hfit.2.1 K0 K2).mono ?_
      rintro e w6 ⟨l6, ⟨h3, rfl⟩ | ⟨h3, rfl⟩⟩
      · have := HM.out
        rw [if_neg (by simp [h1]), if_neg (by simp [ral]; omega), if_pos h3] at this
        subst this
        exact door_refused _ w.heap.size w.heap.size _ 0 _ w6 ((l6.block _ (by omega)).trans ((hb5.block _ (by omega)).trans a6)) rfl ((l6.block _ (by omega)).trans ((hb5.block _ (by omega)).trans a5)) (Nat.le_refl _) rfl rfl (fun w' hb' => ⟨((hb3.trans (hb5.mono (by omega))).trans (l6.mono (by omega))).trans hb', .inl ⟨h3, rfl⟩⟩)
      obtain ⟨k, hk⟩ := Int.eq_ofNat_of_zero_le (show 0 ≤ hl4 zs by omega)
      obtain ⟨n, hn⟩ := Int.eq_ofNat_of_zero_le (show 0 ≤ wat zs 2 by omega)
      rw [hk] at K0
      rw [hn] at K1
      have c6 := l6.cell K0
      have d6 := l6.cell K1
      have e6 := l6.cell K2
      have p6 := (l6.block _ (by omega)).trans ((hb5.block _ (by omega)).trans a6)
      have q6 := (l6.block _ (by omega)).trans ((hb5.block _ (by omega)).trans a5)
      have hb6 := hb5.trans (l6.mono (by omega))
      have HK := hide hk
      have HN := hide hn
      have hkn : 20 ≤ k ∧ k ≤ n ∧ n ≤ zs.length ∧ n ≤ 65535 := by omega
      clear hk hn
      go_wp2_with fail
      refine (packet_any (w.heap.size + 1 + 1) _ zs k n w6 hB hl ((hI.below (hb3.trans (hb6.mono (by omega)))).mono (Nat.le_trans hb3.size hb6.size)) hkn.1 hkn.2.1 hkn.2.2.1 hkn.2.2.2 c6 d6 e6).mono ?_
      rintro e w7 ⟨so, sd, rfl, hOo, hOd, l7⟩
      have p7 := (l7.block _ (Array.getElem?_eq_some_iff.1 p6).1).trans p6
      have q7 := (l7.block _ (Array.getElem?_eq_some_iff.1 q6).1).trans q6
      have hb7 := hb6.trans (l7.mono (Nat.le_trans (by omega) hb6.size))
      obtain ⟨aso, cso, rfl, _, _⟩ := hOo.slice
      obtain ⟨asd, csd, rfl, _, _⟩ := hOd.slice
      have hlo : ((zs.take k).drop 20).length = min k zs.length - 20 := by simp
      have hld : ((zs.take n).drop k).length = n - k := by simp; omega
      rw [hlo] at hOo ⊢
      rw [hld] at hOd ⊢
      clear hlo hld
      have P7 := block_cell p7
      have F7 := block_frozen p7
      unfold pkt
      go_wp2_with fail
      clear P7 F7
      generalize hV8 : ((((((((w7.setCell ⟨w.heap.size, 0, none⟩ _).setCell ⟨w.heap.size, 1, none⟩ _).setCell ⟨w.heap.size, 2, none⟩ _).setCell ⟨w.heap.size, 3, none⟩ _).setCell ⟨w.heap.size, 4, none⟩ _).setCell ⟨w.heap.size, 5, none⟩ _).setCell ⟨w.heap.size, 6, none⟩ _).setCell ⟨w.heap.size, 7, none⟩ _).setCell ⟨w.heap.size, 8, none⟩ _ = V8
      have hV9 : V8 = putRow w7 w.heap.size 0 [.int .u8 (zs[1]?.getD 0), .int .u16 (wat zs 4), .bool (decide (16384 ≤ wat zs 6 % 32768)), .int .u8 (zs[8]?.getD 0), .int .u8 (zs[9]?.getD 0), .int .u32 (wat4 zs 12), .int .u32 (wat4 zs 16), .slice aso (min k zs.length - 20) cso, .slice asd (n - k) csd] := hV8.symm
      have hb8 : But (fun b => b = w.heap.size) w7 V8 := by rw [hV9]; exact putRow_but (E := fun b => b = w.heap.size) (n := w.heap.size) rfl _ _ _ _ (But.refl _ _)
      have p8 := putRow_all [.int .u8 (zs[1]?.getD 0), .int .u16 (wat zs 4), .bool (decide (16384 ≤ wat zs 6 % 32768)), .int .u8 (zs[8]?.getD 0), .int .u8 (zs[9]?.getD 0), .int .u32 (wat4 zs 12), .int .u32 (wat4 zs 16), .slice aso (min k zs.length - 20) cso, .slice asd (n - k) csd] p7 rfl
      rw [← hV9] at p8
      clear hV8 hV9
      have q8 := (hb8.block _ (Array.getElem?_eq_some_iff.1 q7).1 (by omega)).trans q7
      have P8 := block_cell p8
      have F8 := block_frozen p8
      have E8 := block_cell q8
      have G8 := block_frozen q8
      have hs7 : w.heap.size ≤ w7.heap.size := Nat.le_trans hb3.size hb7.size
      have hbW8 := (hb3.trans (hb7.mono (by omega))).trans (hb8.below hs7 (fun j h e => by omega))
      have hOo8 := hOo.but hb8 (fun b h e => by have := hb6.size; omega)
      have hOd8 := hOd.but hb8 (fun b h e => by have := hb6.size; omega)
      have hw8 : Later w7 w7 := Later.refl _
      by_cases h4 : n - k < 8
      · rw [show decide (((n - k : Nat) : Int) < 8) = true from by simp; omega]
        refine (refuse_yes 3 _).mono ?_
        rintro e w' ⟨rfl, rfl⟩
        have := HM.out
        rw [if_neg (by simp [h1]), if_neg (by simp [ral]; omega), if_neg (by simp [h3]), if_pos ⟨by simp, by have h5 := HK.out; have h6 := HN.out; simp [ral]; omega⟩] at this
        subst this
        exact door_refused _ w.heap.size w.heap.size _ 0 _ V8 p8 rfl q8 (Nat.le_refl _) rfl rfl (fun w' hb' => ⟨hbW8.trans hb', .inl ⟨by omega, rfl⟩⟩)
      rw [show decide (((n - k : Nat) : Int) < 8) = false from by simp; omega]
      refine (refuse_no 3 _).mono ?_
      rintro e w' ⟨rfl, rfl⟩
      go_wp2_with fail
      generalize hV9 : ((((((((V8.setCell ⟨w.heap.size, 0, none⟩ _).setCell ⟨w.heap.size, 1, none⟩ _).setCell ⟨w.heap.size, 2, none⟩ _).setCell ⟨w.heap.size, 3, none⟩ _).setCell ⟨w.heap.size, 4, none⟩ _).setCell ⟨w.heap.size, 5, none⟩ _).setCell ⟨w.heap.size, 6, none⟩ _).setCell ⟨w.heap.size, 7, none⟩ _).setCell ⟨w.heap.size, 8, none⟩ _ = V9
      have hV10 : V9 = putRow V8 w.heap.size 0 [.int .u8 (zs[1]?.getD 0), .int .u16 (wat zs 4), .bool (decide (16384 ≤ wat zs 6 % 32768)), .int .u8 (zs[8]?.getD 0), .int .u8 (zs[9]?.getD 0), .int .u32 (wat4 zs 12), .int .u32 (wat4 zs 16), .slice aso (min k zs.length - 20) cso, .slice asd (n - k) csd] := hV9.symm
      have hb9 : But (fun b => b = w.heap.size) V8 V9 := by rw [hV10]; exact putRow_but (E := fun b => b = w.heap.size) (n := w.heap.size) rfl _ _ _ _ (But.refl _ _)
      have p9 := putRow_all [.int .u8 (zs[1]?.getD 0), .int .u16 (wat zs 4), .bool (decide (16384 ≤ wat zs 6 % 32768)), .int .u8 (zs[8]?.getD 0), .int .u8 (zs[9]?.getD 0), .int .u32 (wat4 zs 12), .int .u32 (wat4 zs 16), .slice aso (min k zs.length - 20) cso, .slice asd (n - k) csd] p8 rfl
      rw [← hV10] at p9
      clear hV9 hV10
      have q9 := (hb9.block _ (Array.getElem?_eq_some_iff.1 q8).1 (by omega)).trans q8
      have q10 := heap_set1 q9 0 (.int .i64 0)
      have p10 := (Below.heap_setCell V9 ⟨w.heap.size + 1, 0, none⟩ (.int .i64 0) w.heap.size (by simp)).trans p9
      have hs8 : w.heap.size ≤ V8.heap.size := Nat.le_trans hs7 hb8.size
      have hb10 : Below w.heap.size w (V9.setCell ⟨w.heap.size + 1, 0, none⟩ (.int .i64 0)) := (hbW8.trans (hb9.below hs8 (fun j h e => by omega))).setCell (p := ⟨w.heap.size + 1, 0, none⟩) (Nat.le_succ _) _
      have hbb : But (fun b => b = w.heap.size ∨ b = w.heap.size + 1) V8 (V9.setCell ⟨w.heap.size + 1, 0, none⟩ (.int .i64 0)) := But.setCell (⟨hb9.os, hb9.tape, hb9.output, hb9.size, fun j hj he => hb9.block j hj (fun e => he (.inl e))⟩) (.inr rfl) _
      have := HM.out
      rw [if_neg (by simp [h1]), if_neg (by simp [ral]; omega), if_neg (by simp [h3]), if_neg (by have h5 := HK.out; have h6 := HN.out; simp [ral]; omega)] at this
      refine door_idle _ w.heap.size 0 _ _ _ _ _ _ _ _ _ _ p10 q10 rfl rfl ⟨hb10, .inr ⟨this, _, _, rfl, ?_, ?_⟩⟩
      · rw [HK.out]
        exact (hOo8.but hbb (fun b h e => by have := hb6.size; omega)).mono (Nat.le_trans hb3.size hb6.size)
      · rw [HK.out, show ral true zs = (n : Int) from by simp [ral]; have h6 := HN.out; omega]
        exact (hOd8.but hbb (fun b h e => by have := hb6.size; omega)).mono (Nat.le_trans hb3.size hb6.size)
end Go.Proofs.YtdabhbadcbnkhaaGreatDoor

/- What read tells of a header that was built: the mathematics. -/
namespace Go.Proofs.YtdabhbadcbnkhaaGreatDoor
open Go.RowKit Go.Shelf
set_option maxRecDepth 100000
set_option linter.unusedVariables false
set_option linter.unusedSimpArgs false

set_option maxHeartbeats 1000000 in
theorem quote_any (sv : Value) (zs : List Int) (w : World) (hB : Mt.By zs) (hl : zs.length ≤ 225000000000000) (hI : Rd w.heap.size w sv zs) :
    Calls Tryz.prog 48 #[sv] w fun e w' => Below w.heap.size w w' ∧
      ((rde true zs ≠ 0 ∧ e = .returned (.tuple #[.agg zc.toArray, .int .i64 (rde true zs)])) ∨
       (rde true zs = 0 ∧ ∃ so sd, e = .returned (.tuple #[pkt zs so sd, .int .i64 0]) ∧ Ow w.heap.size w' so ((zs.take (hl4 zs).toNat).drop 20) ∧ Ow w.heap.size w' sd ((zs.take (ral true zs).toNat).drop (hl4 zs).toNat))) := by
  obtain ⟨a, cap, rfl, hl1, hm1⟩ := hI.slice
  have hb1 : Below w.heap.size w (w.alloc (.cells zc.toArray 26)) := (Below.refl _ _).alloc (Nat.le_refl _) _
  have p1 := heap_alloc_new w (.cells zc.toArray 26)
  have H := hide (read_any true _ zs (w.alloc (.cells zc.toArray 26)) hB hl ((hI.below hb1).mono (by simp)))
  go_enter Tryz.func48, Tryz.ntmps48
  go_wp2_with fail
  refine H.out.mono ?_
  rintro e w2 ⟨hb2, ⟨h, rfl⟩ | ⟨h, so, sd, rfl, hO1, hO2⟩⟩
  · have p2 := (hb2.block w.heap.size (by simp)).trans p1
    have P2 := block_cell p2
    have F2 := block_frozen p2
    go_wp2_with fail
    generalize hV : ((((((((w2.setCell ⟨w.heap.size, 0, none⟩ _).setCell ⟨w.heap.size, 1, none⟩ _).setCell ⟨w.heap.size, 2, none⟩ _).setCell ⟨w.heap.size, 3, none⟩ _).setCell ⟨w.heap.size, 4, none⟩ _).setCell ⟨w.heap.size, 5, none⟩ _).setCell ⟨w.heap.size, 6, none⟩ _).setCell ⟨w.heap.size, 7, none⟩ _).setCell ⟨w.heap.size, 8, none⟩ _ = V
    have hV9 : V = putRow w2 w.heap.size 0 zc := hV.symm
    have hb8 : But (fun b => b = w.heap.size) w2 V := by rw [hV9]; exact putRow_but (E := fun b => b = w.heap.size) (n := w.heap.size) rfl _ _ _ _ (But.refl _ _)
    have p8 := putRow_all zc p2 rfl
    rw [← hV9] at p8
    clear hV hV9 P2 F2 H
    have P8 := block_cell p8
    have hbW := (hb1.trans (hb2.mono (by simp))).trans (hb8.below (by have := hb2.size; simp at this; omega) (fun j h e => by omega))
    exact bodyPost_ret (v := .tuple #[.agg zc.toArray, .int .i64 (rde true zs)]) (by simp [results, Tryz.results48, go_sem, P8]) rfl ⟨hbW, .inl ⟨h, rfl⟩⟩
  · have p2 := (hb2.block w.heap.size (by simp)).trans p1
    have P2 := block_cell p2
    have F2 := block_frozen p2
    obtain ⟨aso, cso, rfl, _, _⟩ := hO1.slice
    obtain ⟨asd, csd, rfl, _, _⟩ := hO2.slice
    generalize hL1 : ((zs.take (hl4 zs).toNat).drop 20).length = lo at *
    generalize hL2 : ((zs.take (ral true zs).toNat).drop (hl4 zs).toNat).length = ld at *
    have HL1 := hide hL1
    have HL2 := hide hL2
    clear hL1 hL2
    unfold pkt
    go_wp2_with fail
    generalize hV : ((((((((w2.setCell ⟨w.heap.size, 0, none⟩ _).setCell ⟨w.heap.size, 1, none⟩ _).setCell ⟨w.heap.size, 2, none⟩ _).setCell ⟨w.heap.size, 3, none⟩ _).setCell ⟨w.heap.size, 4, none⟩ _).setCell ⟨w.heap.size, 5, none⟩ _).setCell ⟨w.heap.size, 6, none⟩ _).setCell ⟨w.heap.size, 7, none⟩ _).setCell ⟨w.heap.size, 8, none⟩ _ = V
    have hV9 : V = putRow w2 w.heap.size 0 [.int .u8 (zs[1]?.getD 0), .int .u16 (wat zs 4), .bool (decide (16384 ≤ wat zs 6 % 32768)), .int .u8 (zs[8]?.getD 0), .int .u8 (zs[9]?.getD 0), .int .u32 (wat4 zs 12), .int .u32 (wat4 zs 16), .slice aso lo cso, .slice asd ld csd] := hV.symm
    have hb8 : But (fun b => b = w.heap.size) w2 V := by rw [hV9]; exact putRow_but (E := fun b => b = w.heap.size) (n := w.heap.size) rfl _ _ _ _ (But.refl _ _)
    have p8 := putRow_all [.int .u8 (zs[1]?.getD 0), .int .u16 (wat zs 4), .bool (decide (16384 ≤ wat zs 6 % 32768)), .int .u8 (zs[8]?.getD 0), .int .u8 (zs[9]?.getD 0), .int .u32 (wat4 zs 12), .int .u32 (wat4 zs 16), .slice aso lo cso, .slice asd ld csd] p2 rfl
    rw [← hV9] at p8
    clear hV hV9 P2 F2 H
    have P8 := block_cell p8
    have hbW := (hb1.trans (hb2.mono (by simp))).trans (hb8.below (by have := hb2.size; simp at this; omega) (fun j h e => by omega))
    exact bodyPost_ret (v := .tuple #[pkt zs (.slice aso lo cso) (.slice asd ld csd), .int .i64 0]) (by simp [results, Tryz.results48, go_sem, P8, pkt]) rfl ⟨hbW, .inr ⟨h, _, _, rfl, (hO1.but hb8 (fun b h e => by simp at h; omega)).mono (by simp), (hO2.but hb8 (fun b h e => by simp at h; omega)).mono (by simp)⟩⟩

section
variable (tos id : Int) (keep : Bool) (ttl proto src dst : Int) (zo zd : List Int) (all : Int)
end

end Go.Proofs.YtdabhbadcbnkhaaGreatDoor

/- Layer 5: Quoted. -/
namespace Go.Proofs.YtdabhbadcbnkhaaGreatDoor
open Go.RowKit Go.Shelf
set_option maxRecDepth 100000
set_option linter.unusedVariables false
set_option linter.unusedSimpArgs false

def erb (ty : Int) : Bool := ty == 3 || (ty == 11 || ty == 12)
/-- What a quoted packet's data are; its protocol. -/
def qdt (mz : List Int) : List Int := (mz.take (ral true mz).toNat).drop (hl4 mz).toNat
def qpr (mz : List Int) : Int := mz[9]?.getD 0
def qie (pr : Int) (d : List Int) : Int := if pr = 6 then 0 else if pr = 17 then 0 else if pr = 1 then (if ecb (d[0]?.getD 0) (d[1]?.getD 0) = true then 0 else 12) else if pr = 47 then (if pge 47 (d.take 8) = 4 then 4 else 0) else 12
def qia (pr : Int) (d : List Int) : Int := if pr = 6 then wat d 0 else if pr = 17 then wat d 0 else if pr = 1 then wat d 4 else 0
def qib (pr : Int) (d : List Int) : Int := if pr = 6 then wat d 2 else if pr = 17 then wat d 2 else if pr = 1 then wat d 4 else wat d 6
def que (proto : Int) (zd : List Int) : Int := if pie proto zd ≠ 0 then pie proto zd else if erb (zd[0]?.getD 0) = false then 12 else if rde true (zd.drop 8) ≠ 0 then rde true (zd.drop 8) else qie (qpr (zd.drop 8)) (qdt (zd.drop 8))

set_option maxHeartbeats 4000000 in
theorem quoted_bad (tos id ttl proto src dst : Int) (keep : Bool) (so sd : Value) (zd : List Int) (w : World) (hT : Tb w) (hB : Mt.By zd) (hI : Rd w.heap.size w sd zd) (hl : zd.length ≤ 140737488355328) (hbad : pie proto zd ≠ 0 ∨ erb (zd[0]?.getD 0) = false ∨ rde true (zd.drop 8) ≠ 0) :
    Calls Tryz.prog 19 #[.agg #[.int .u8 tos, .int .u16 id, .bool keep, .int .u8 ttl, .int .u8 proto, .int .u32 src, .int .u32 dst, so, sd]] w fun e w' => Below w.heap.size w w' ∧ e = .returned (.tuple #[.agg #[.int .u8 0, .int .u32 0, .int .u32 0, .int .u16 0, .int .u16 0], .int .i64 (que proto zd)]) := by
  obtain ⟨ad, cd, rfl, _, _⟩ := hI.slice
  have hb0 : Below w.heap.size w ((w.alloc (.cells #[.int .u8 tos, .int .u16 id, .bool keep, .int .u8 ttl, .int .u8 proto, .int .u32 src, .int .u32 dst, so, .slice ad zd.length cd] 26)).alloc (.cells #[.int .u8 0, .int .u32 0, .int .u32 0, .int .u16 0, .int .u16 0] 29)) := ((Below.refl _ _).alloc (Nat.le_refl _) _).alloc (by simp) _
  have r0 := heap_alloc_new (w.alloc (.cells #[.int .u8 tos, .int .u16 id, .bool keep, .int .u8 ttl, .int .u8 proto, .int .u32 src, .int .u32 dst, so, .slice ad zd.length cd] 26)) (.cells #[.int .u8 0, .int .u32 0, .int .u32 0, .int .u16 0, .int .u16 0] 29)
  rw [World.size_alloc] at r0
  have R0 := hide r0
  clear r0
  go_enter Tryz.func19, Tryz.ntmps19
  go_wp2_with fail
  generalize ((w.alloc (.cells #[.int .u8 tos, .int .u16 id, .bool keep, .int .u8 ttl, .int .u8 proto, .int .u32 src, .int .u32 dst, so, .slice ad zd.length cd] 26)).alloc (.cells #[.int .u8 0, .int .u32 0, .int .u32 0, .int .u16 0, .int .u16 0] 29)) = w0 at *
  refine (parseIcmp_any tos id ttl proto src dst keep _ _ zd w0 hB ((hI.below hb0).mono hb0.size) hl).mono ?_
  rintro e w1 ⟨hb1, ⟨hf, rfl⟩ | ⟨hf, a1, c1, rfl, hO⟩⟩
  · rw [show zm.toArray = #[.int .u8 0, .int .u8 0, .int .u32 0, .slice none 0 0] from rfl]
    have HQ : Hid (que proto zd = pie proto zd) := if_pos hf
    generalize hpu : pie proto zd = f at *
    have hne : (f != 0) = true := by simp [hf]
    clear hpu hf hbad
    have la : Later w1 (w1.alloc (.cells #[.int .u8 0, .int .u8 0, .int .u32 0, .slice none 0 0] 39)) := (Below.refl _ _).alloc (Nat.le_refl _) _
    have l1 := Later.trans hb1 la
    have rX := later_keep l1 R0.out
    have hwX := hb0.trans (l1.mono hb0.size)
    have kX := block_cell rX
    have fX := block_frozen rX
    go_wp2_with fail
    generalize w1.alloc (.cells #[.int .u8 0, .int .u8 0, .int .u32 0, .slice none 0 0] 39) = W at *
    generalize hV : ((((W.setCell ⟨w.heap.size + 1, 0, none⟩ _).setCell ⟨w.heap.size + 1, 1, none⟩ _).setCell ⟨w.heap.size + 1, 2, none⟩ _).setCell ⟨w.heap.size + 1, 3, none⟩ _).setCell ⟨w.heap.size + 1, 4, none⟩ _ = V
    have hV8 : V = putRow W (w.heap.size + 1) 0 [.int .u8 0, .int .u32 0, .int .u32 0, .int .u16 0, .int .u16 0] := hV.symm
    have hbV : But (fun b => b = w.heap.size + 1) W V := by rw [hV8]; exact putRow_but (E := fun b => b = w.heap.size + 1) (n := w.heap.size + 1) rfl _ _ _ _ (But.refl _ _)
    have pV := putRow_all ([.int .u8 0, .int .u32 0, .int .u32 0, .int .u16 0, .int .u16 0] : List Value) rX rfl
    rw [← hV8] at pV
    clear hV hV8 kX fX
    have PV := block_cell pV
    have hwV : Below w.heap.size w V := hwX.trans (hbV.below hwX.size (fun k hk e => by omega))
    exact bodyPost_ret (v := .tuple #[.agg #[.int .u8 0, .int .u32 0, .int .u32 0, .int .u16 0, .int .u16 0], .int .i64 f]) (by simp [results, Tryz.results19, go_sem, PV]) rfl ⟨hwV, by rw [HQ.out]⟩
  · have la : Later w1 (w1.alloc (.cells #[.int .u8 (zd[0]?.getD 0), .int .u8 (zd[1]?.getD 0), .int .u32 (wat4 zd 4), .slice a1 (zd.length - 8) c1] 39)) := (Below.refl _ _).alloc (Nat.le_refl _) _
    have l1 := Later.trans hb1 la
    have mW := heap_alloc_new w1 (.cells #[.int .u8 (zd[0]?.getD 0), .int .u8 (zd[1]?.getD 0), .int .u32 (wat4 zd 4), .slice a1 (zd.length - 8) c1] 39)
    have rW := later_keep l1 R0.out
    have hwW := hb0.trans (l1.mono hb0.size)
    have DW := hO.ck (CK.of la)
    have HPF := hide hf
    clear hf
    go_wp2_with fail
    generalize w1.alloc (.cells #[.int .u8 (zd[0]?.getD 0), .int .u8 (zd[1]?.getD 0), .int .u32 (wat4 zd 4), .slice a1 (zd.length - 8) c1] 39) = W at *
    generalize w1.heap.size = gm at *
    refine (isError_any (zd[0]?.getD 0) (zd[1]?.getD 0) (wat4 zd 4) _ W).mono ?_
    have HER : Hid (erb (zd[0]?.getD 0) = (zd[0]?.getD 0 == 3 || (zd[0]?.getD 0 == 11 || zd[0]?.getD 0 == 12))) := rfl
    generalize (zd[0]?.getD 0 == 3 || (zd[0]?.getD 0 == 11 || zd[0]?.getD 0 == 12)) = bq at *
    rintro e w2 ⟨rfl, hb2⟩
    have l2 : Later W w2 := hb2
    have r2 := later_keep l2 rW
    have hw2 := hwW.trans (hb2.mono hwW.size)
    cases bq with
    | false =>
      have HQ : Hid (que proto zd = 12) := by show _ = _; unfold que; rw [if_neg (fun h => h HPF.out), if_pos HER.out]
      clear hbad
      have rX := r2
      have hwX := hw2
      have kX := block_cell rX
      have fX := block_frozen rX
      go_wp2_with fail
      generalize hV : ((((w2.setCell ⟨w.heap.size + 1, 0, none⟩ _).setCell ⟨w.heap.size + 1, 1, none⟩ _).setCell ⟨w.heap.size + 1, 2, none⟩ _).setCell ⟨w.heap.size + 1, 3, none⟩ _).setCell ⟨w.heap.size + 1, 4, none⟩ _ = V
      have hV8 : V = putRow w2 (w.heap.size + 1) 0 [.int .u8 0, .int .u32 0, .int .u32 0, .int .u16 0, .int .u16 0] := hV.symm
      have hbV : But (fun b => b = w.heap.size + 1) w2 V := by rw [hV8]; exact putRow_but (E := fun b => b = w.heap.size + 1) (n := w.heap.size + 1) rfl _ _ _ _ (But.refl _ _)
      have pV := putRow_all ([.int .u8 0, .int .u32 0, .int .u32 0, .int .u16 0, .int .u16 0] : List Value) rX rfl
      rw [← hV8] at pV
      clear hV hV8 kX fX
      have PV := block_cell pV
      have hwV : Below w.heap.size w V := hwX.trans (hbV.below hwX.size (fun k hk e => by omega))
      exact bodyPost_ret (v := .tuple #[.agg #[.int .u8 0, .int .u32 0, .int .u32 0, .int .u16 0, .int .u16 0], .int .i64 12]) (by simp [results, Tryz.results19, go_sem, PV]) rfl ⟨hwV, by rw [HQ.out]⟩
    | true =>
      have hrd : rde true (zd.drop 8) ≠ 0 := by
        rcases hbad with h | h | h
        · exact absurd HPF.out h
        · rw [HER.out] at h; cases h
        · exact h
      clear hbad
      have HQ : Hid (que proto zd = rde true (zd.drop 8)) := by show _ = _; unfold que; rw [if_neg (fun h => h HPF.out), if_neg (by rw [HER.out]; decide), if_pos hrd]
      have km := block_cell (later_keep l2 mW)
      have D2 := DW.ck (CK.of l2)
      go_wp2_with fail
      clear km
      refine (quote_any _ (zd.drop 8) w2 (hB.drop 8) (by simp; omega) D2.rd).mono ?_
      rintro e w3 ⟨hb3, ⟨hf3, rfl⟩ | ⟨hf3, _⟩⟩
      · rw [show zc.toArray = #[.int .u8 0, .int .u16 0, .bool false, .int .u8 0, .int .u8 0, .int .u32 0, .int .u32 0, .slice none 0 0, .slice none 0 0] from rfl]
        generalize hpu : rde true (zd.drop 8) = f at *
        have hne : (f != 0) = true := by simp [hrd]
        clear hpu hrd hf3
        have la3 : Later w3 (w3.alloc (.cells #[.int .u8 0, .int .u16 0, .bool false, .int .u8 0, .int .u8 0, .int .u32 0, .int .u32 0, .slice none 0 0, .slice none 0 0] 26)) := (Below.refl _ _).alloc (Nat.le_refl _) _
        have l3 := Later.trans hb3 la3
        have rX := later_keep l3 r2
        have hwX := hw2.trans (l3.mono hw2.size)
        have kX := block_cell rX
        have fX := block_frozen rX
        go_wp2_with fail
        generalize w3.alloc (.cells #[.int .u8 0, .int .u16 0, .bool false, .int .u8 0, .int .u8 0, .int .u32 0, .int .u32 0, .slice none 0 0, .slice none 0 0] 26) = W3 at *
        generalize hV : ((((W3.setCell ⟨w.heap.size + 1, 0, none⟩ _).setCell ⟨w.heap.size + 1, 1, none⟩ _).setCell ⟨w.heap.size + 1, 2, none⟩ _).setCell ⟨w.heap.size + 1, 3, none⟩ _).setCell ⟨w.heap.size + 1, 4, none⟩ _ = V
        have hV8 : V = putRow W3 (w.heap.size + 1) 0 [.int .u8 0, .int .u32 0, .int .u32 0, .int .u16 0, .int .u16 0] := hV.symm
        have hbV : But (fun b => b = w.heap.size + 1) W3 V := by rw [hV8]; exact putRow_but (E := fun b => b = w.heap.size + 1) (n := w.heap.size + 1) rfl _ _ _ _ (But.refl _ _)
        have pV := putRow_all ([.int .u8 0, .int .u32 0, .int .u32 0, .int .u16 0, .int .u16 0] : List Value) rX rfl
        rw [← hV8] at pV
        clear hV hV8 kX fX
        have PV := block_cell pV
        have hwV : Below w.heap.size w V := hwX.trans (hbV.below hwX.size (fun k hk e => by omega))
        exact bodyPost_ret (v := .tuple #[.agg #[.int .u8 0, .int .u32 0, .int .u32 0, .int .u16 0, .int .u16 0], .int .i64 f]) (by simp [results, Tryz.results19, go_sem, PV]) rfl ⟨hwV, by rw [HQ.out]⟩
      · exact absurd hf3 hrd

set_option maxHeartbeats 8000000 in
theorem quoted_gen (pr x1 y1 e0 : Int) (fw fb : FuncId) (tos id ttl proto src dst : Int) (keep : Bool) (so sd : Value) (zd : List Int) (w : World) (hT : Tb w) (hB : Mt.By zd) (hI : Rd w.heap.size w sd zd) (hl : zd.length ≤ 140737488355328) (hpi : pie proto zd = 0) (her : erb (zd[0]?.getD 0) = true) (hrd : rde true (zd.drop 8) = 0) (hpr : (zd.drop 8)[9]?.getD 0 = pr) (h8 : 8 ≤ (qdt (zd.drop 8)).length)
    (hlk0 : ∀ (w : World) (b : Nat), w.heap[b]? = some (.map rdE 4) → (Instr.lookup 89 (.map (some b)) (.int .u8 pr) true).run Tryz.prog w = .ok (.tuple #[.agg #[.func (.func fw) #[] #[], .func (.func fb) #[] #[]], .bool true]) w)
    (hcf : ∀ (args : Array Value) (w : World), (callFunc fb args).run Tryz.prog w = .ok (.enter fb args) w)
    (hf : ∀ w', Below w.heap.size w w' → Calls Tryz.prog fb #[.agg #[.int .u8 ((qdt (zd.drop 8))[0]?.getD 0), .int .u8 ((qdt (zd.drop 8))[1]?.getD 0), .int .u8 ((qdt (zd.drop 8))[2]?.getD 0), .int .u8 ((qdt (zd.drop 8))[3]?.getD 0), .int .u8 ((qdt (zd.drop 8))[4]?.getD 0), .int .u8 ((qdt (zd.drop 8))[5]?.getD 0), .int .u8 ((qdt (zd.drop 8))[6]?.getD 0), .int .u8 ((qdt (zd.drop 8))[7]?.getD 0)]] w' fun e w'' => Below w'.heap.size w' w'' ∧ ∃ a b : Int, e = .returned (.tuple #[.agg #[.int .u16 a, .int .u16 b], .int .i64 e0]) ∧ (e0 = 0 → a = x1 ∧ b = y1)) :
    Calls Tryz.prog 19 #[.agg #[.int .u8 tos, .int .u16 id, .bool keep, .int .u8 ttl, .int .u8 proto, .int .u32 src, .int .u32 dst, so, sd]] w fun e w' => Below w.heap.size w w' ∧ e = .returned (.tuple #[otv e0 pr (wat4 (zd.drop 8) 12) (wat4 (zd.drop 8) 16) x1 y1, .int .i64 e0]) := by
  obtain ⟨ad, cd, rfl, _, _⟩ := hI.slice
  have hb0 : Below w.heap.size w ((w.alloc (.cells #[.int .u8 tos, .int .u16 id, .bool keep, .int .u8 ttl, .int .u8 proto, .int .u32 src, .int .u32 dst, so, .slice ad zd.length cd] 26)).alloc (.cells #[.int .u8 0, .int .u32 0, .int .u32 0, .int .u16 0, .int .u16 0] 29)) := ((Below.refl _ _).alloc (Nat.le_refl _) _).alloc (by simp) _
  have r0 := heap_alloc_new (w.alloc (.cells #[.int .u8 tos, .int .u16 id, .bool keep, .int .u8 ttl, .int .u8 proto, .int .u32 src, .int .u32 dst, so, .slice ad zd.length cd] 26)) (.cells #[.int .u8 0, .int .u32 0, .int .u32 0, .int .u16 0, .int .u16 0] 29)
  rw [World.size_alloc] at r0
  have R0 := hide r0
  clear r0
  go_enter Tryz.func19, Tryz.ntmps19
  go_wp2_with fail
  generalize ((w.alloc (.cells #[.int .u8 tos, .int .u16 id, .bool keep, .int .u8 ttl, .int .u8 proto, .int .u32 src, .int .u32 dst, so, .slice ad zd.length cd] 26)).alloc (.cells #[.int .u8 0, .int .u32 0, .int .u32 0, .int .u16 0, .int .u16 0] 29)) = w0 at *
  refine (parseIcmp_any tos id ttl proto src dst keep _ _ zd w0 hB ((hI.below hb0).mono hb0.size) hl).mono ?_
  rintro e w1 ⟨hb1, ⟨hff, rfl⟩ | ⟨hff, a1, c1, rfl, hO⟩⟩
  · exact absurd hpi hff
  · have la : Later w1 (w1.alloc (.cells #[.int .u8 (zd[0]?.getD 0), .int .u8 (zd[1]?.getD 0), .int .u32 (wat4 zd 4), .slice a1 (zd.length - 8) c1] 39)) := (Below.refl _ _).alloc (Nat.le_refl _) _
    have l1 := Later.trans hb1 la
    have mW := heap_alloc_new w1 (.cells #[.int .u8 (zd[0]?.getD 0), .int .u8 (zd[1]?.getD 0), .int .u32 (wat4 zd 4), .slice a1 (zd.length - 8) c1] 39)
    have rW := later_keep l1 R0.out
    have hwW := hb0.trans (l1.mono hb0.size)
    have DW := hO.ck (CK.of la)
    clear hff
    go_wp2_with fail
    generalize w1.alloc (.cells #[.int .u8 (zd[0]?.getD 0), .int .u8 (zd[1]?.getD 0), .int .u32 (wat4 zd 4), .slice a1 (zd.length - 8) c1] 39) = W at *
    generalize w1.heap.size = gm at *
    refine (isError_any (zd[0]?.getD 0) (zd[1]?.getD 0) (wat4 zd 4) _ W).mono ?_
    rw [show (zd[0]?.getD 0 == 3 || (zd[0]?.getD 0 == 11 || zd[0]?.getD 0 == 12)) = true from her]
    rintro e w2 ⟨rfl, hb2⟩
    have l2 : Later W w2 := hb2
    have r2 := later_keep l2 rW
    have hw2 := hwW.trans (hb2.mono hwW.size)
    have km := block_cell (later_keep l2 mW)
    have D2 := DW.ck (CK.of l2)
    go_wp2_with fail
    clear km
    refine (quote_any _ (zd.drop 8) w2 (hB.drop 8) (by simp; omega) D2.rd).mono ?_
    rintro e w3 ⟨hb3, ⟨hf3, _⟩ | ⟨_, qo, qs0, rfl, hO3, hD3⟩⟩
    · exact absurd hrd hf3
    obtain ⟨b7, c7, rfl, _, _⟩ := hO3.slice
    obtain ⟨b8, c8, rfl, hc8, hc9⟩ := hD3.slice
    unfold pkt
    have HPR := hide hpr
    rw [hpr]
    clear hpr hpi her hrd
    generalize (zd.drop 8)[1]?.getD 0 = q1 at *
    generalize wat (zd.drop 8) 4 = q2 at *
    generalize decide (16384 ≤ wat (zd.drop 8) 6 % 32768) = q3 at *
    generalize (zd.drop 8)[8]?.getD 0 = q4 at *
    generalize hqs : wat4 (zd.drop 8) 12 = qs at *
    generalize hqd : wat4 (zd.drop 8) 16 = qd at *
    have HQS := hide hqs
    have HQD := hide hqd
    clear hqs hqd
    generalize (((zd.drop 8).take (hl4 (zd.drop 8)).toNat).drop 20).length = l7 at *
    clear hO3
    rw [show ((zd.drop 8).take (ral true (zd.drop 8)).toNat).drop (hl4 (zd.drop 8)).toNat = qdt (zd.drop 8) from rfl] at hD3 hc8 ⊢
    generalize hdq : qdt (zd.drop 8) = dq at *
    have HDQ := hide hdq
    clear hdq
    obtain ⟨g8, rfl, _, _, hcs, _⟩ := hD3.at (by omega)
    have la3 : Later w3 (w3.alloc (.cells #[.int .u8 q1, .int .u16 q2, .bool q3, .int .u8 q4, .int .u8 pr, .int .u32 qs, .int .u32 qd, .slice b7 l7 c7, .slice (some ⟨g8, 0, none⟩) dq.length c8] 26)) := (Below.refl _ _).alloc (Nat.le_refl _) _
    have l3 := Later.trans hb3 la3
    have qk := heap_alloc_new w3 (.cells #[.int .u8 q1, .int .u16 q2, .bool q3, .int .u8 q4, .int .u8 pr, .int .u32 qs, .int .u32 qd, .slice b7 l7 c7, .slice (some ⟨g8, 0, none⟩) dq.length c8] 26)
    have r3 := later_keep l3 r2
    have hw3 := hw2.trans (l3.mono hw2.size)
    have HCS : Hid (∀ j, j < dq.length → w3.cell? ⟨g8, j, none⟩ = some (.int .u8 (dq[j]?.getD 0))) := fun j h => (hcs j h).1
    have hgq : w.heap.size + 1 < w3.heap.size := Nat.lt_of_lt_of_le (Array.getElem?_eq_some_iff.1 r2).1 hb3.size
    clear D2 hD3 hcs
    go_upto_region 9 with fail
    have HC3 : Hid (∀ j, j < dq.length → (w3.alloc (.cells #[.int .u8 q1, .int .u16 q2, .bool q3, .int .u8 q4, .int .u8 pr, .int .u32 qs, .int .u32 qd, .slice b7 l7 c7, .slice (some ⟨g8, 0, none⟩) dq.length c8] 26)).cell? ⟨g8, j, none⟩ = some (.int .u8 (dq[j]?.getD 0))) := fun j h => la3.cell (HCS.out j h)
    clear HCS
    generalize w3.alloc (.cells #[.int .u8 q1, .int .u16 q2, .bool q3, .int .u8 q4, .int .u8 pr, .int .u32 qs, .int .u32 qd, .slice b7 l7 c7, .slice (some ⟨g8, 0, none⟩) dq.length c8] 26) = w0q at *
    generalize w3.heap.size = gq at *
    have hlt0 : gq < w0q.heap.size := (Array.getElem?_eq_some_iff.1 qk).1
    go_cut [7, 8] (fun q x wx => ∃ g, q = .pointer (some ⟨g, 0, none⟩) ∧ x = .bool true ∧ wx.heap[g]? = some (.cells #[.func (.func fw) #[] #[], .func (.func fb) #[] #[]] 87 (0, 0)) ∧ Below w0q.heap.size w0q wx)
    case first =>
      refine anyT_begin (R := But (fun b => w0q.heap.size ≤ b)) 10 rfl (by kernel_rfl) ?_
      have hd : Later w0q w0q.drew := Later.drew w0q
      have pd := (hd.block gq (Array.getElem?_eq_some_iff.1 qk).1).trans qk
      have bd : Below w0q.heap.size w0q w0q.drew := hd
      generalize w0q.drew = Wd at *
      have ha : ∀ v1, But (fun b => w0q.heap.size ≤ b) Wd v1 → ∀ i, v1.cell? ⟨gq, i, none⟩ = #[Value.int .u8 q1, .int .u16 q2, .bool q3, .int .u8 q4, .int .u8 pr, .int .u32 qs, .int .u32 qd, .slice b7 l7 c7, .slice (some ⟨g8, 0, none⟩) dq.length c8][i]? := fun v1 h => block_cell ((h.block gq (Array.getElem?_eq_some_iff.1 pd).1 (by omega)).trans pd)
      have hz : w0q.heap.size ≤ Wd.heap.size := bd.size
      refine anyT_val (But.pre _) 1 rfl (by kernel_rfl) (by kernel_rfl) (by kernel_rfl) (fun _ _ _ _ h => h) rfl ?_; apply Exists.intro; refine ⟨fun v1 hv1 => ?_, ?_⟩; (· (go_simp; rfl)); simp only [Act.put, List.setIfInBounds_toArray, List.set_cons_zero, List.set_cons_succ]
      refine anyT_val (But.pre _) 2 rfl (by kernel_rfl) (by kernel_rfl) (by kernel_rfl) (fun _ _ _ _ h => h) rfl ?_; apply Exists.intro; refine ⟨fun v1 hv1 => ?_, ?_⟩; (· (go_simp; rfl)); simp only [Act.put, List.setIfInBounds_toArray, List.set_cons_zero, List.set_cons_succ]
      refine anyT_two 0 7 rfl rfl (by kernel_rfl) rfl rfl ?_ ?_
      · skip
        refine wp_enter 49 #[] (by go_simp) ?_
        refine (readers_any Wd).mono ?_
        rintro e W3 ⟨m, rfl, hb3, hM3⟩
        have l3 : Later Wd W3 := hb3
        refine ⟨But.of l3, ?_⟩
        simp only [Act.put, List.setIfInBounds_toArray, List.set_cons_zero, List.set_cons_succ]
        have hlk := hlk0 _ _ hM3
        refine anyT_two 3 7 rfl rfl (by kernel_rfl) rfl rfl ?_ ?_
        · unfold Oper.wp
          go_simp
          refine ⟨But.refl _ _, ?_⟩
          clear hlk
          refine anyT_val (But.pre _) 4 rfl (by kernel_rfl) (by kernel_rfl) (by kernel_rfl) (fun _ _ _ _ h => h) rfl ?_; apply Exists.intro; refine ⟨fun v1 hv1 => ?_, ?_⟩; (· (go_simp; rfl)); simp only [Act.put, List.setIfInBounds_toArray, List.set_cons_zero, List.set_cons_succ]
          refine anyT_val (But.pre _) 5 rfl (by kernel_rfl) (by kernel_rfl) (by kernel_rfl) (fun _ _ _ _ h => h) rfl ?_; apply Exists.intro; refine ⟨fun v1 hv1 => ?_, ?_⟩; (· (go_simp; rfl)); simp only [Act.put, List.setIfInBounds_toArray, List.set_cons_zero, List.set_cons_succ]
          refine anyT_val (But.pre _) 6 rfl (by kernel_rfl) (by kernel_rfl) (by kernel_rfl) (fun _ _ _ _ h => h) rfl ?_; apply Exists.intro; refine ⟨fun v1 hv1 => ?_, ?_⟩; (· (go_simp; rfl)); simp only [Act.put, List.setIfInBounds_toArray, List.set_cons_zero, List.set_cons_succ]
          refine anyT_one 7 rfl (by kernel_rfl) rfl ?_
          unfold Oper.wp
          go_simp
          have l4 : Later W3 (W3.alloc (.cells #[.nilFunc, .nilFunc] 87)) := (Below.refl _ _).alloc (Nat.le_refl _) _
          have g4 := heap_alloc_new W3 (.cells #[.nilFunc, .nilFunc] 87)
          have b4 : Below w0q.heap.size w0q (W3.alloc (.cells #[.nilFunc, .nilFunc] 87)) := (bd.trans (l3.mono hz)).trans (l4.mono (Nat.le_trans hz l3.size))
          have hge : w0q.heap.size ≤ W3.heap.size := Nat.le_trans hz l3.size
          refine ⟨But.of l4, ?_⟩
          generalize W3.alloc (.cells #[.nilFunc, .nilFunc] 87) = W4 at *
          generalize W3.heap.size = g at *
          have kg := block_cell g4
          have fg := block_frozen g4
          have hsf := run_store_fn Tryz.prog
          refine anyT_one 8 rfl (by kernel_rfl) rfl ?_
          unfold Oper.wp
          go_simp
          generalize hV : (W4.setCell ⟨g, 0, none⟩ _).setCell ⟨g, 1, none⟩ _ = V
          have hV8 : V = putRow W4 (g) 0 [.func (.func fw) #[] #[], .func (.func fb) #[] #[]] := hV.symm
          have hbV : But (fun b => w0q.heap.size ≤ b) W4 V := by rw [hV8]; exact putRow_but (E := fun b => w0q.heap.size ≤ b) (n := g) hge _ _ _ _ (But.refl _ _)
          have pV := putRow_all [Value.func (.func fw) #[] #[], .func (.func fb) #[] #[]] g4 rfl
          rw [← hV8] at pV
          clear hV hV8 kg fg hsf
          refine ⟨hbV, ?_⟩
          refine anyT_one 9 rfl (by kernel_rfl) rfl ?_
          unfold Oper.wp
          go_simp
          refine ⟨But.refl _ _, ?_⟩
          refine anyT_done (by kernel_rfl) ?_
          have hbl : Below w0q.heap.size w0q V := b4.trans (hbV.below b4.size (fun k hk e => by omega))
          clear ha
          go_wp2_with fail
          go_meet
          exact ⟨_, rfl, rfl, pV, hbl⟩
        · unfold Oper.wp
          go_simp
          have l4 : Later W3 (W3.alloc (.cells #[.nilFunc, .nilFunc] 87)) := (Below.refl _ _).alloc (Nat.le_refl _) _
          have g4 := heap_alloc_new W3 (.cells #[.nilFunc, .nilFunc] 87)
          have b4 : Below w0q.heap.size w0q (W3.alloc (.cells #[.nilFunc, .nilFunc] 87)) := (bd.trans (l3.mono hz)).trans (l4.mono (Nat.le_trans hz l3.size))
          have hge : w0q.heap.size ≤ W3.heap.size := Nat.le_trans hz l3.size
          have hM4 := (l4.block m (Array.getElem?_eq_some_iff.1 hM3).1).trans hM3
          refine ⟨But.of l4, ?_⟩
          clear hlk
          generalize W3.alloc (.cells #[.nilFunc, .nilFunc] 87) = W4 at *
          generalize W3.heap.size = g at *
          have hlk := hlk0 _ _ hM4
          refine anyT_one 3 rfl (by kernel_rfl) rfl ?_
          unfold Oper.wp
          go_simp
          refine ⟨But.refl _ _, ?_⟩
          clear hlk
          refine anyT_val (But.pre _) 4 rfl (by kernel_rfl) (by kernel_rfl) (by kernel_rfl) (fun _ _ _ _ h => h) rfl ?_; apply Exists.intro; refine ⟨fun v1 hv1 => ?_, ?_⟩; (· (go_simp; rfl)); simp only [Act.put, List.setIfInBounds_toArray, List.set_cons_zero, List.set_cons_succ]
          refine anyT_val (But.pre _) 5 rfl (by kernel_rfl) (by kernel_rfl) (by kernel_rfl) (fun _ _ _ _ h => h) rfl ?_; apply Exists.intro; refine ⟨fun v1 hv1 => ?_, ?_⟩; (· (go_simp; rfl)); simp only [Act.put, List.setIfInBounds_toArray, List.set_cons_zero, List.set_cons_succ]
          refine anyT_val (But.pre _) 6 rfl (by kernel_rfl) (by kernel_rfl) (by kernel_rfl) (fun _ _ _ _ h => h) rfl ?_; apply Exists.intro; refine ⟨fun v1 hv1 => ?_, ?_⟩; (· (go_simp; rfl)); simp only [Act.put, List.setIfInBounds_toArray, List.set_cons_zero, List.set_cons_succ]
          have kg := block_cell g4
          have fg := block_frozen g4
          have hsf := run_store_fn Tryz.prog
          refine anyT_one 8 rfl (by kernel_rfl) rfl ?_
          unfold Oper.wp
          go_simp
          generalize hV : (W4.setCell ⟨g, 0, none⟩ _).setCell ⟨g, 1, none⟩ _ = V
          have hV8 : V = putRow W4 (g) 0 [.func (.func fw) #[] #[], .func (.func fb) #[] #[]] := hV.symm
          have hbV : But (fun b => w0q.heap.size ≤ b) W4 V := by rw [hV8]; exact putRow_but (E := fun b => w0q.heap.size ≤ b) (n := g) hge _ _ _ _ (But.refl _ _)
          have pV := putRow_all [Value.func (.func fw) #[] #[], .func (.func fb) #[] #[]] g4 rfl
          rw [← hV8] at pV
          clear hV hV8 kg fg hsf
          refine ⟨hbV, ?_⟩
          refine anyT_one 9 rfl (by kernel_rfl) rfl ?_
          unfold Oper.wp
          go_simp
          refine ⟨But.refl _ _, ?_⟩
          refine anyT_done (by kernel_rfl) ?_
          have hbl : Below w0q.heap.size w0q V := b4.trans (hbV.below b4.size (fun k hk e => by omega))
          clear ha
          go_wp2_with fail
          go_meet
          exact ⟨_, rfl, rfl, pV, hbl⟩
      · unfold Oper.wp
        go_simp
        have l4 : Later Wd (Wd.alloc (.cells #[.nilFunc, .nilFunc] 87)) := (Below.refl _ _).alloc (Nat.le_refl _) _
        have g4 := heap_alloc_new Wd (.cells #[.nilFunc, .nilFunc] 87)
        have b4 : Below w0q.heap.size w0q (Wd.alloc (.cells #[.nilFunc, .nilFunc] 87)) := bd.trans (l4.mono hz)
        refine ⟨But.of l4, ?_⟩
        have hge : w0q.heap.size ≤ Wd.heap.size := hz
        generalize Wd.alloc (.cells #[.nilFunc, .nilFunc] 87) = W4 at *
        generalize Wd.heap.size = g at *
        refine anyT_one 0 rfl (by kernel_rfl) rfl ?_
        refine wp_enter 49 #[] (by go_simp) ?_
        refine (readers_any W4).mono ?_
        rintro e W5 ⟨m, rfl, hb5, hM5⟩
        have l5 : Later W4 W5 := hb5
        have g5 := (l5.block g (Array.getElem?_eq_some_iff.1 g4).1).trans g4
        have b5 : Below w0q.heap.size w0q W5 := b4.trans (l5.mono b4.size)
        refine ⟨But.of l5, ?_⟩
        simp only [Act.put, List.setIfInBounds_toArray, List.set_cons_zero, List.set_cons_succ]
        have hlk := hlk0 _ _ hM5
        refine anyT_one 3 rfl (by kernel_rfl) rfl ?_
        unfold Oper.wp
        go_simp
        refine ⟨But.refl _ _, ?_⟩
        clear hlk
        refine anyT_val (But.pre _) 4 rfl (by kernel_rfl) (by kernel_rfl) (by kernel_rfl) (fun _ _ _ _ h => h) rfl ?_; apply Exists.intro; refine ⟨fun v1 hv1 => ?_, ?_⟩; (· (go_simp; rfl)); simp only [Act.put, List.setIfInBounds_toArray, List.set_cons_zero, List.set_cons_succ]
        refine anyT_val (But.pre _) 5 rfl (by kernel_rfl) (by kernel_rfl) (by kernel_rfl) (fun _ _ _ _ h => h) rfl ?_; apply Exists.intro; refine ⟨fun v1 hv1 => ?_, ?_⟩; (· (go_simp; rfl)); simp only [Act.put, List.setIfInBounds_toArray, List.set_cons_zero, List.set_cons_succ]
        refine anyT_val (But.pre _) 6 rfl (by kernel_rfl) (by kernel_rfl) (by kernel_rfl) (fun _ _ _ _ h => h) rfl ?_; apply Exists.intro; refine ⟨fun v1 hv1 => ?_, ?_⟩; (· (go_simp; rfl)); simp only [Act.put, List.setIfInBounds_toArray, List.set_cons_zero, List.set_cons_succ]
        have kg := block_cell g5
        have fg := block_frozen g5
        have hsf := run_store_fn Tryz.prog
        refine anyT_one 8 rfl (by kernel_rfl) rfl ?_
        unfold Oper.wp
        go_simp
        generalize hV : (W5.setCell ⟨g, 0, none⟩ _).setCell ⟨g, 1, none⟩ _ = V
        have hV8 : V = putRow W5 (g) 0 [.func (.func fw) #[] #[], .func (.func fb) #[] #[]] := hV.symm
        have hbV : But (fun b => w0q.heap.size ≤ b) W5 V := by rw [hV8]; exact putRow_but (E := fun b => w0q.heap.size ≤ b) (n := g) hge _ _ _ _ (But.refl _ _)
        have pV := putRow_all [Value.func (.func fw) #[] #[], .func (.func fb) #[] #[]] g5 rfl
        rw [← hV8] at pV
        clear hV hV8 kg fg hsf
        refine ⟨hbV, ?_⟩
        refine anyT_one 9 rfl (by kernel_rfl) rfl ?_
        unfold Oper.wp
        go_simp
        refine ⟨But.refl _ _, ?_⟩
        refine anyT_done (by kernel_rfl) ?_
        have hbl : Below w0q.heap.size w0q V := b5.trans (hbV.below b5.size (fun k hk e => by omega))
        clear ha
        go_wp2_with fail
        go_meet
        exact ⟨_, rfl, rfl, pV, hbl⟩
    case rest =>
      obtain ⟨g, rfl, rfl, hg, hbc⟩ := hcut
      have qc := (hbc.block gq (Array.getElem?_eq_some_iff.1 qk).1).trans qk
      have rc := (hbc.block _ (Array.getElem?_eq_some_iff.1 r3).1).trans r3
      have hwc := hw3.trans (hbc.mono hw3.size)
      have HCc : Hid (∀ j, j < dq.length → wc.cell? ⟨g8, j, none⟩ = some (.int .u8 (dq[j]?.getD 0))) := fun j h => (hbc.cell (p := ⟨g8, j, none⟩) (World.block_lt_of_cell? w0q ⟨g8, j, none⟩ (HC3.out j h))).trans (HC3.out j h)
      generalize wc = wm at *
      go_upto_region 12 with fail
      go_cut [9, 5] (fun q x wx => ∃ gp u v, q = .pointer (some ⟨gp, 0, none⟩) ∧ x = .int .i64 e0 ∧ wx.heap[gp]? = some (.cells #[.int .u16 u, .int .u16 v] 92 (0, 0)) ∧ Hid (e0 = 0 → u = x1 ∧ v = y1) ∧ Below wm.heap.size wm wx)
      case first =>
        refine anyT_begin (R := But (fun b => wm.heap.size ≤ b)) 13 rfl (by kernel_rfl) ?_
        have ld : Later wm wm.drew := Later.drew wm
        have qWd := later_keep ld qc
        have gWd := later_keep ld hg
        have bd : Below wm.heap.size wm wm.drew := ld
        have cWd : ∀ j, j < dq.length → wm.drew.cell? ⟨g8, j, none⟩ = some (.int .u8 (dq[j]?.getD 0)) := fun j h => ld.cell (HCc.out j h)
        generalize wm.drew = Wd at *
        have hz : wm.heap.size ≤ Wd.heap.size := bd.size
        have hgl := (Array.getElem?_eq_some_iff.1 hg).1
        have hql := (Array.getElem?_eq_some_iff.1 qc).1
        have h8l : g8 < wm.heap.size := World.block_lt_of_cell? wm ⟨g8, 0, none⟩ (HCc.out 0 (by omega))
        have ha : ∀ v1, But (fun b => wm.heap.size ≤ b) Wd v1 → ∀ i, v1.cell? ⟨gq, i, none⟩ = #[Value.int .u8 q1, .int .u16 q2, .bool q3, .int .u8 q4, .int .u8 pr, .int .u32 qs, .int .u32 qd, .slice b7 l7 c7, .slice (some ⟨g8, 0, none⟩) dq.length c8][i]? := fun v1 h => block_cell ((h.block gq (Array.getElem?_eq_some_iff.1 qWd).1 (by omega)).trans qWd)
        have hb : ∀ v1, But (fun b => wm.heap.size ≤ b) Wd v1 → ∀ i, v1.cell? ⟨g, i, none⟩ = #[Value.func (.func fw) #[] #[], .func (.func fb) #[] #[]][i]? := fun v1 h => block_cell ((h.block g (Array.getElem?_eq_some_iff.1 gWd).1 (by omega)).trans gWd)
        have hc0 : ∀ v1, But (fun b => wm.heap.size ≤ b) Wd v1 → v1.cell? ⟨g8, 0, none⟩ = some (.int .u8 (dq[0]?.getD 0)) := fun v1 h => h.cell (cWd 0 (by omega)) (by show ¬ wm.heap.size ≤ g8; omega)
        have hc1 : ∀ v1, But (fun b => wm.heap.size ≤ b) Wd v1 → v1.cell? ⟨g8, 1, none⟩ = some (.int .u8 (dq[1]?.getD 0)) := fun v1 h => h.cell (cWd 1 (by omega)) (by show ¬ wm.heap.size ≤ g8; omega)
        have hc2 : ∀ v1, But (fun b => wm.heap.size ≤ b) Wd v1 → v1.cell? ⟨g8, 2, none⟩ = some (.int .u8 (dq[2]?.getD 0)) := fun v1 h => h.cell (cWd 2 (by omega)) (by show ¬ wm.heap.size ≤ g8; omega)
        have hc3 : ∀ v1, But (fun b => wm.heap.size ≤ b) Wd v1 → v1.cell? ⟨g8, 3, none⟩ = some (.int .u8 (dq[3]?.getD 0)) := fun v1 h => h.cell (cWd 3 (by omega)) (by show ¬ wm.heap.size ≤ g8; omega)
        have hc4 : ∀ v1, But (fun b => wm.heap.size ≤ b) Wd v1 → v1.cell? ⟨g8, 4, none⟩ = some (.int .u8 (dq[4]?.getD 0)) := fun v1 h => h.cell (cWd 4 (by omega)) (by show ¬ wm.heap.size ≤ g8; omega)
        have hc5 : ∀ v1, But (fun b => wm.heap.size ≤ b) Wd v1 → v1.cell? ⟨g8, 5, none⟩ = some (.int .u8 (dq[5]?.getD 0)) := fun v1 h => h.cell (cWd 5 (by omega)) (by show ¬ wm.heap.size ≤ g8; omega)
        have hc6 : ∀ v1, But (fun b => wm.heap.size ≤ b) Wd v1 → v1.cell? ⟨g8, 6, none⟩ = some (.int .u8 (dq[6]?.getD 0)) := fun v1 h => h.cell (cWd 6 (by omega)) (by show ¬ wm.heap.size ≤ g8; omega)
        have hc7 : ∀ v1, But (fun b => wm.heap.size ≤ b) Wd v1 → v1.cell? ⟨g8, 7, none⟩ = some (.int .u8 (dq[7]?.getD 0)) := fun v1 h => h.cell (cWd 7 (by omega)) (by show ¬ wm.heap.size ≤ g8; omega)
        clear cWd
        have har : ∀ v1 : World, (Instr.arrayAt 94 (.slice (some ⟨g8, 0, none⟩) dq.length c8)).run Tryz.prog v1 = .ok (.pointer (some ⟨g8, 0, none⟩)) v1 := fun v1 => run_arrayAt (w := v1) 94 5 8 _ _ _ Tryz.underlying94 h8
        refine anyT_val (But.pre _) 0 rfl (by kernel_rfl) (by kernel_rfl) (by kernel_rfl) (fun _ _ _ _ h => h) rfl ?_; apply Exists.intro; refine ⟨fun v1 hv1 => ?_, ?_⟩; (· (go_simp; rfl)); simp only [Act.put, List.setIfInBounds_toArray, List.set_cons_zero, List.set_cons_succ]
        refine anyT_val (But.pre _) 1 rfl (by kernel_rfl) (by kernel_rfl) (by kernel_rfl) (fun _ _ _ _ h => h) rfl ?_; apply Exists.intro; refine ⟨fun v1 hv1 => ?_, ?_⟩; (· (go_simp; rfl)); simp only [Act.put, List.setIfInBounds_toArray, List.set_cons_zero, List.set_cons_succ]
        refine anyT_val (But.pre _) 2 rfl (by kernel_rfl) (by kernel_rfl) (by kernel_rfl) (fun _ _ _ _ h => h) rfl ?_; apply Exists.intro; refine ⟨fun v1 hv1 => ?_, ?_⟩; (· (go_simp; rfl)); simp only [Act.put, List.setIfInBounds_toArray, List.set_cons_zero, List.set_cons_succ]
        refine anyT_val (But.pre _) 3 rfl (by kernel_rfl) (by kernel_rfl) (by kernel_rfl) (fun _ _ _ _ h => h) rfl ?_; apply Exists.intro; refine ⟨fun v1 hv1 => ?_, ?_⟩; (· (go_simp; rfl)); simp only [Act.put, List.setIfInBounds_toArray, List.set_cons_zero, List.set_cons_succ]
        refine anyT_val (But.pre _) 4 rfl (by kernel_rfl) (by kernel_rfl) (by kernel_rfl) (fun _ _ _ _ h => h) rfl ?_; apply Exists.intro; refine ⟨fun v1 hv1 => ?_, ?_⟩; (· (go_simp; rfl)); simp only [Act.put, List.setIfInBounds_toArray, List.set_cons_zero, List.set_cons_succ]
        refine anyT_val (But.pre _) 5 rfl (by kernel_rfl) (by kernel_rfl) (by kernel_rfl) (fun _ _ _ _ h => h) rfl ?_; apply Exists.intro; refine ⟨fun v1 hv1 => ?_, ?_⟩; (· (go_simp; rfl)); simp only [Act.put, List.setIfInBounds_toArray, List.set_cons_zero, List.set_cons_succ]
        clear har ha hb hc0 hc1 hc2 hc3 hc4 hc5 hc6 hc7
        refine anyT_two 6 10 rfl rfl (by kernel_rfl) rfl rfl ?_ ?_
        · refine wp_enter fb #[.agg #[.int .u8 (dq[0]?.getD 0), .int .u8 (dq[1]?.getD 0), .int .u8 (dq[2]?.getD 0), .int .u8 (dq[3]?.getD 0), .int .u8 (dq[4]?.getD 0), .int .u8 (dq[5]?.getD 0), .int .u8 (dq[6]?.getD 0), .int .u8 (dq[7]?.getD 0)]] (by go_simp) ?_
          refine (hf Wd (hwc.trans (ld.mono hwc.size))).mono ?_
          rintro e W5 ⟨hb5, u, v, rfl, hab⟩
          have HAB : Hid (e0 = 0 → u = x1 ∧ v = y1) := hab
          clear hab
          have l5 : Later Wd W5 := hb5
          refine ⟨But.of l5, ?_⟩
          simp only [Act.put, List.setIfInBounds_toArray, List.set_cons_zero, List.set_cons_succ]
          refine anyT_val (But.pre _) 7 rfl (by kernel_rfl) (by kernel_rfl) (by kernel_rfl) (fun _ _ _ _ h => h) rfl ?_; apply Exists.intro; refine ⟨fun v1 hv1 => ?_, ?_⟩; (· (go_simp; rfl)); simp only [Act.put, List.setIfInBounds_toArray, List.set_cons_zero, List.set_cons_succ]
          refine anyT_val (But.pre _) 8 rfl (by kernel_rfl) (by kernel_rfl) (by kernel_rfl) (fun _ _ _ _ h => h) rfl ?_; apply Exists.intro; refine ⟨fun v1 hv1 => ?_, ?_⟩; (· (go_simp; rfl)); simp only [Act.put, List.setIfInBounds_toArray, List.set_cons_zero, List.set_cons_succ]
          refine anyT_val (But.pre _) 9 rfl (by kernel_rfl) (by kernel_rfl) (by kernel_rfl) (fun _ _ _ _ h => h) rfl ?_; apply Exists.intro; refine ⟨fun v1 hv1 => ?_, ?_⟩; (· (go_simp; rfl)); simp only [Act.put, List.setIfInBounds_toArray, List.set_cons_zero, List.set_cons_succ]
          refine anyT_one 10 rfl (by kernel_rfl) rfl ?_
          unfold Oper.wp
          go_simp
          have la5 : Later W5 (W5.alloc (.cells #[.int .u16 0, .int .u16 0] 92)) := (Below.refl _ _).alloc (Nat.le_refl _) _
          have g6 := heap_alloc_new W5 (.cells #[.int .u16 0, .int .u16 0] 92)
          refine ⟨But.of la5, ?_⟩
          have b6 : Below wm.heap.size wm (W5.alloc (.cells #[.int .u16 0, .int .u16 0] 92)) := bd.trans ((l5.trans la5).mono hz)
          have hge : wm.heap.size ≤ W5.heap.size := Nat.le_trans hz l5.size
          generalize W5.alloc (.cells #[.int .u16 0, .int .u16 0] 92) = W6 at *
          generalize W5.heap.size = gp at *
          have kg := block_cell g6
          have fg := block_frozen g6
          refine anyT_one 11 rfl (by kernel_rfl) rfl ?_
          unfold Oper.wp
          go_simp
          generalize hV : (W6.setCell ⟨gp, 0, none⟩ _).setCell ⟨gp, 1, none⟩ _ = V
          have hV8 : V = putRow W6 gp 0 [.int .u16 u, .int .u16 v] := hV.symm
          have hbV : But (fun b => wm.heap.size ≤ b) W6 V := by rw [hV8]; exact putRow_but (E := fun b => wm.heap.size ≤ b) (n := gp) hge _ _ _ _ (But.refl _ _)
          have pV := putRow_all ([.int .u16 u, .int .u16 v] : List Value) g6 rfl
          rw [← hV8] at pV
          clear hV hV8 kg fg
          refine ⟨hbV, ?_⟩
          refine anyT_one 12 rfl (by kernel_rfl) rfl ?_
          unfold Oper.wp
          go_simp
          refine ⟨But.refl _ _, ?_⟩
          refine anyT_done (by kernel_rfl) ?_
          have hbl : Below wm.heap.size wm V := b6.trans (hbV.below b6.size (fun k hk e => by omega))
          go_wp2_with fail
          go_meet
          exact ⟨_, u, v, rfl, rfl, pV, HAB, hbl⟩
        · unfold Oper.wp
          go_simp
          have la5 : Later Wd (Wd.alloc (.cells #[.int .u16 0, .int .u16 0] 92)) := (Below.refl _ _).alloc (Nat.le_refl _) _
          have g5 := heap_alloc_new Wd (.cells #[.int .u16 0, .int .u16 0] 92)
          refine ⟨But.of la5, ?_⟩
          have hge : wm.heap.size ≤ Wd.heap.size := hz
          generalize Wd.alloc (.cells #[.int .u16 0, .int .u16 0] 92) = W5 at *
          generalize Wd.heap.size = gp at *
          refine anyT_one 6 rfl (by kernel_rfl) rfl ?_
          refine wp_enter fb #[.agg #[.int .u8 (dq[0]?.getD 0), .int .u8 (dq[1]?.getD 0), .int .u8 (dq[2]?.getD 0), .int .u8 (dq[3]?.getD 0), .int .u8 (dq[4]?.getD 0), .int .u8 (dq[5]?.getD 0), .int .u8 (dq[6]?.getD 0), .int .u8 (dq[7]?.getD 0)]] (by go_simp) ?_
          refine (hf W5 (hwc.trans ((ld.trans la5).mono hwc.size))).mono ?_
          rintro e W6 ⟨hb6, u, v, rfl, hab⟩
          have HAB : Hid (e0 = 0 → u = x1 ∧ v = y1) := hab
          clear hab
          have l6 : Later W5 W6 := hb6
          have g6 := later_keep l6 g5
          have b6 : Below wm.heap.size wm W6 := (Below.mono (ld.trans (la5.trans l6)) (Nat.le_refl _))
          refine ⟨But.of l6, ?_⟩
          simp only [Act.put, List.setIfInBounds_toArray, List.set_cons_zero, List.set_cons_succ]
          refine anyT_val (But.pre _) 7 rfl (by kernel_rfl) (by kernel_rfl) (by kernel_rfl) (fun _ _ _ _ h => h) rfl ?_; apply Exists.intro; refine ⟨fun v1 hv1 => ?_, ?_⟩; (· (go_simp; rfl)); simp only [Act.put, List.setIfInBounds_toArray, List.set_cons_zero, List.set_cons_succ]
          refine anyT_val (But.pre _) 8 rfl (by kernel_rfl) (by kernel_rfl) (by kernel_rfl) (fun _ _ _ _ h => h) rfl ?_; apply Exists.intro; refine ⟨fun v1 hv1 => ?_, ?_⟩; (· (go_simp; rfl)); simp only [Act.put, List.setIfInBounds_toArray, List.set_cons_zero, List.set_cons_succ]
          refine anyT_val (But.pre _) 9 rfl (by kernel_rfl) (by kernel_rfl) (by kernel_rfl) (fun _ _ _ _ h => h) rfl ?_; apply Exists.intro; refine ⟨fun v1 hv1 => ?_, ?_⟩; (· (go_simp; rfl)); simp only [Act.put, List.setIfInBounds_toArray, List.set_cons_zero, List.set_cons_succ]
          have kg := block_cell g6
          have fg := block_frozen g6
          refine anyT_one 11 rfl (by kernel_rfl) rfl ?_
          unfold Oper.wp
          go_simp
          generalize hV : (W6.setCell ⟨gp, 0, none⟩ _).setCell ⟨gp, 1, none⟩ _ = V
          have hV8 : V = putRow W6 gp 0 [.int .u16 u, .int .u16 v] := hV.symm
          have hbV : But (fun b => wm.heap.size ≤ b) W6 V := by rw [hV8]; exact putRow_but (E := fun b => wm.heap.size ≤ b) (n := gp) hge _ _ _ _ (But.refl _ _)
          have pV := putRow_all ([.int .u16 u, .int .u16 v] : List Value) g6 rfl
          rw [← hV8] at pV
          clear hV hV8 kg fg
          refine ⟨hbV, ?_⟩
          refine anyT_one 12 rfl (by kernel_rfl) rfl ?_
          unfold Oper.wp
          go_simp
          refine ⟨But.refl _ _, ?_⟩
          refine anyT_done (by kernel_rfl) ?_
          have hbl : Below wm.heap.size wm V := b6.trans (hbV.below b6.size (fun k hk e => by omega))
          go_wp2_with fail
          go_meet
          exact ⟨_, u, v, rfl, rfl, pV, HAB, hbl⟩
      case rest =>
        obtain ⟨gp, u, v, rfl, rfl, hgp, HAB, hb2c⟩ := hcut
        have q5 := (hb2c.block gq (Array.getElem?_eq_some_iff.1 qc).1).trans qc
        have r5 := (hb2c.block _ (Array.getElem?_eq_some_iff.1 rc).1).trans rc
        have hw5 := hwc.trans (hb2c.mono hwc.size)
        have kq := block_cell q5
        have kg := block_cell hgp
        go_wp2_with fail
        clear kq kg
        refine (told_any q1 q2 q4 pr qs qd u v e0 q3 _ _ wc).mono ?_
        rintro e w7 ⟨hb7, ⟨hx, rfl⟩ | ⟨hx, rfl⟩⟩
        · have HX := hide hx
          clear hx
          have rX := (Below.block hb7 _ (Array.getElem?_eq_some_iff.1 r5).1).trans r5
          have hwX := hw5.trans (hb7.mono hw5.size)
          have kX := block_cell rX
          have fX := block_frozen rX
          go_wp2_with fail
          generalize hV : ((((w7.setCell ⟨w.heap.size + 1, 0, none⟩ _).setCell ⟨w.heap.size + 1, 1, none⟩ _).setCell ⟨w.heap.size + 1, 2, none⟩ _).setCell ⟨w.heap.size + 1, 3, none⟩ _).setCell ⟨w.heap.size + 1, 4, none⟩ _ = V
          have hV8 : V = putRow w7 (w.heap.size + 1) 0 [.int .u8 0, .int .u32 0, .int .u32 0, .int .u16 0, .int .u16 0] := hV.symm
          have hbV : But (fun b => b = w.heap.size + 1) w7 V := by rw [hV8]; exact putRow_but (E := fun b => b = w.heap.size + 1) (n := w.heap.size + 1) rfl _ _ _ _ (But.refl _ _)
          have pV := putRow_all ([.int .u8 0, .int .u32 0, .int .u32 0, .int .u16 0, .int .u16 0] : List Value) rX rfl
          rw [← hV8] at pV
          clear hV hV8 kX fX
          have PV := block_cell pV
          have hwV : Below w.heap.size w V := hwX.trans (hbV.below hwX.size (fun k hk e => by omega))
          exact bodyPost_ret (v := .tuple #[.agg #[.int .u8 0, .int .u32 0, .int .u32 0, .int .u16 0, .int .u16 0], .int .i64 e0]) (by simp [results, Tryz.results19, go_sem, PV]) rfl ⟨hwV, by rw [otv_no HX.out]⟩
        · subst hx
          obtain ⟨rfl, rfl⟩ := HAB.out rfl
          have rX := (Below.block hb7 _ (Array.getElem?_eq_some_iff.1 r5).1).trans r5
          have hwX := hw5.trans (hb7.mono hw5.size)
          have kX := block_cell rX
          have fX := block_frozen rX
          go_wp2_with fail
          generalize hV : ((((w7.setCell ⟨w.heap.size + 1, 0, none⟩ _).setCell ⟨w.heap.size + 1, 1, none⟩ _).setCell ⟨w.heap.size + 1, 2, none⟩ _).setCell ⟨w.heap.size + 1, 3, none⟩ _).setCell ⟨w.heap.size + 1, 4, none⟩ _ = V
          have hV8 : V = putRow w7 (w.heap.size + 1) 0 [.int .u8 pr, .int .u32 qs, .int .u32 qd, .int .u16 u, .int .u16 v] := hV.symm
          have hbV : But (fun b => b = w.heap.size + 1) w7 V := by rw [hV8]; exact putRow_but (E := fun b => b = w.heap.size + 1) (n := w.heap.size + 1) rfl _ _ _ _ (But.refl _ _)
          have pV := putRow_all ([.int .u8 pr, .int .u32 qs, .int .u32 qd, .int .u16 u, .int .u16 v] : List Value) rX rfl
          rw [← hV8] at pV
          clear hV hV8 kX fX
          have PV := block_cell pV
          have hwV : Below w.heap.size w V := hwX.trans (hbV.below hwX.size (fun k hk e => by omega))
          exact bodyPost_ret (v := .tuple #[.agg #[.int .u8 pr, .int .u32 qs, .int .u32 qd, .int .u16 u, .int .u16 v], .int .i64 0]) (by simp [results, Tryz.results19, go_sem, PV]) rfl ⟨hwV, by rw [HQS.out, HQD.out]; rfl⟩
end Go.Proofs.YtdabhbadcbnkhaaGreatDoor

/- Layer 5: Quoted in one form. -/
namespace Go.Proofs.YtdabhbadcbnkhaaGreatDoor
open Go.RowKit Go.Shelf
set_option maxRecDepth 100000
set_option linter.unusedVariables false
set_option linter.unusedSimpArgs false

set_option maxHeartbeats 8000000 in
theorem quoted_other (pr : Int) (tos id ttl proto src dst : Int) (keep : Bool) (so sd : Value) (zd : List Int) (w : World) (hT : Tb w) (hB : Mt.By zd) (hI : Rd w.heap.size w sd zd) (hl : zd.length ≤ 140737488355328) (hpi : pie proto zd = 0) (her : erb (zd[0]?.getD 0) = true) (hrd : rde true (zd.drop 8) = 0) (hpr : (zd.drop 8)[9]?.getD 0 = pr) (h8 : 8 ≤ (qdt (zd.drop 8)).length) (hno : pr ≠ 6 ∧ pr ≠ 17 ∧ pr ≠ 1 ∧ pr ≠ 47) :
    Calls Tryz.prog 19 #[.agg #[.int .u8 tos, .int .u16 id, .bool keep, .int .u8 ttl, .int .u8 proto, .int .u32 src, .int .u32 dst, so, sd]] w fun e w' => Below w.heap.size w w' ∧ e = .returned (.tuple #[.agg #[.int .u8 0, .int .u32 0, .int .u32 0, .int .u16 0, .int .u16 0], .int .i64 12]) := by
  obtain ⟨ad, cd, rfl, _, _⟩ := hI.slice
  have hb0 : Below w.heap.size w ((w.alloc (.cells #[.int .u8 tos, .int .u16 id, .bool keep, .int .u8 ttl, .int .u8 proto, .int .u32 src, .int .u32 dst, so, .slice ad zd.length cd] 26)).alloc (.cells #[.int .u8 0, .int .u32 0, .int .u32 0, .int .u16 0, .int .u16 0] 29)) := ((Below.refl _ _).alloc (Nat.le_refl _) _).alloc (by simp) _
  have r0 := heap_alloc_new (w.alloc (.cells #[.int .u8 tos, .int .u16 id, .bool keep, .int .u8 ttl, .int .u8 proto, .int .u32 src, .int .u32 dst, so, .slice ad zd.length cd] 26)) (.cells #[.int .u8 0, .int .u32 0, .int .u32 0, .int .u16 0, .int .u16 0] 29)
  rw [World.size_alloc] at r0
  have R0 := hide r0
  clear r0
  go_enter Tryz.func19, Tryz.ntmps19
  go_wp2_with fail
  generalize ((w.alloc (.cells #[.int .u8 tos, .int .u16 id, .bool keep, .int .u8 ttl, .int .u8 proto, .int .u32 src, .int .u32 dst, so, .slice ad zd.length cd] 26)).alloc (.cells #[.int .u8 0, .int .u32 0, .int .u32 0, .int .u16 0, .int .u16 0] 29)) = w0 at *
  refine (parseIcmp_any tos id ttl proto src dst keep _ _ zd w0 hB ((hI.below hb0).mono hb0.size) hl).mono ?_
  rintro e w1 ⟨hb1, ⟨hff, rfl⟩ | ⟨hff, a1, c1, rfl, hO⟩⟩
  · exact absurd hpi hff
  · have la : Later w1 (w1.alloc (.cells #[.int .u8 (zd[0]?.getD 0), .int .u8 (zd[1]?.getD 0), .int .u32 (wat4 zd 4), .slice a1 (zd.length - 8) c1] 39)) := (Below.refl _ _).alloc (Nat.le_refl _) _
    have l1 := Later.trans hb1 la
    have mW := heap_alloc_new w1 (.cells #[.int .u8 (zd[0]?.getD 0), .int .u8 (zd[1]?.getD 0), .int .u32 (wat4 zd 4), .slice a1 (zd.length - 8) c1] 39)
    have rW := later_keep l1 R0.out
    have hwW := hb0.trans (l1.mono hb0.size)
    have DW := hO.ck (CK.of la)
    clear hff
    go_wp2_with fail
    generalize w1.alloc (.cells #[.int .u8 (zd[0]?.getD 0), .int .u8 (zd[1]?.getD 0), .int .u32 (wat4 zd 4), .slice a1 (zd.length - 8) c1] 39) = W at *
    generalize w1.heap.size = gm at *
    refine (isError_any (zd[0]?.getD 0) (zd[1]?.getD 0) (wat4 zd 4) _ W).mono ?_
    rw [show (zd[0]?.getD 0 == 3 || (zd[0]?.getD 0 == 11 || zd[0]?.getD 0 == 12)) = true from her]
    rintro e w2 ⟨rfl, hb2⟩
    have l2 : Later W w2 := hb2
    have r2 := later_keep l2 rW
    have hw2 := hwW.trans (hb2.mono hwW.size)
    have km := block_cell (later_keep l2 mW)
    have D2 := DW.ck (CK.of l2)
    go_wp2_with fail
    clear km
    refine (quote_any _ (zd.drop 8) w2 (hB.drop 8) (by simp; omega) D2.rd).mono ?_
    rintro e w3 ⟨hb3, ⟨hf3, _⟩ | ⟨_, qo, qs0, rfl, hO3, hD3⟩⟩
    · exact absurd hrd hf3
    obtain ⟨b7, c7, rfl, _, _⟩ := hO3.slice
    obtain ⟨b8, c8, rfl, hc8, hc9⟩ := hD3.slice
    unfold pkt
    have HPR := hide hpr
    rw [hpr]
    clear hpr hpi her hrd
    generalize (zd.drop 8)[1]?.getD 0 = q1 at *
    generalize wat (zd.drop 8) 4 = q2 at *
    generalize decide (16384 ≤ wat (zd.drop 8) 6 % 32768) = q3 at *
    generalize (zd.drop 8)[8]?.getD 0 = q4 at *
    generalize hqs : wat4 (zd.drop 8) 12 = qs at *
    generalize hqd : wat4 (zd.drop 8) 16 = qd at *
    have HQS := hide hqs
    have HQD := hide hqd
    clear hqs hqd
    generalize (((zd.drop 8).take (hl4 (zd.drop 8)).toNat).drop 20).length = l7 at *
    clear hO3
    rw [show ((zd.drop 8).take (ral true (zd.drop 8)).toNat).drop (hl4 (zd.drop 8)).toNat = qdt (zd.drop 8) from rfl] at hD3 hc8 ⊢
    generalize hdq : qdt (zd.drop 8) = dq at *
    have HDQ := hide hdq
    clear hdq
    obtain ⟨g8, rfl, _, _, hcs, _⟩ := hD3.at (by omega)
    have la3 : Later w3 (w3.alloc (.cells #[.int .u8 q1, .int .u16 q2, .bool q3, .int .u8 q4, .int .u8 pr, .int .u32 qs, .int .u32 qd, .slice b7 l7 c7, .slice (some ⟨g8, 0, none⟩) dq.length c8] 26)) := (Below.refl _ _).alloc (Nat.le_refl _) _
    have l3 := Later.trans hb3 la3
    have qk := heap_alloc_new w3 (.cells #[.int .u8 q1, .int .u16 q2, .bool q3, .int .u8 q4, .int .u8 pr, .int .u32 qs, .int .u32 qd, .slice b7 l7 c7, .slice (some ⟨g8, 0, none⟩) dq.length c8] 26)
    have r3 := later_keep l3 r2
    have hw3 := hw2.trans (l3.mono hw2.size)
    have HCS : Hid (∀ j, j < dq.length → w3.cell? ⟨g8, j, none⟩ = some (.int .u8 (dq[j]?.getD 0))) := fun j h => (hcs j h).1
    have hgq : w.heap.size + 1 < w3.heap.size := Nat.lt_of_lt_of_le (Array.getElem?_eq_some_iff.1 r2).1 hb3.size
    clear D2 hD3 hcs
    go_upto_region 9 with fail
    have HC3 : Hid (∀ j, j < dq.length → (w3.alloc (.cells #[.int .u8 q1, .int .u16 q2, .bool q3, .int .u8 q4, .int .u8 pr, .int .u32 qs, .int .u32 qd, .slice b7 l7 c7, .slice (some ⟨g8, 0, none⟩) dq.length c8] 26)).cell? ⟨g8, j, none⟩ = some (.int .u8 (dq[j]?.getD 0))) := fun j h => la3.cell (HCS.out j h)
    clear HCS
    generalize w3.alloc (.cells #[.int .u8 q1, .int .u16 q2, .bool q3, .int .u8 q4, .int .u8 pr, .int .u32 qs, .int .u32 qd, .slice b7 l7 c7, .slice (some ⟨g8, 0, none⟩) dq.length c8] 26) = w0q at *
    generalize w3.heap.size = gq at *
    have hlt0 : gq < w0q.heap.size := (Array.getElem?_eq_some_iff.1 qk).1
    go_cut [7, 8] (fun q x wx => ∃ g, q = .pointer (some ⟨g, 0, none⟩) ∧ x = .bool false ∧ wx.heap[g]? = some (.cells #[.nilFunc, .nilFunc] 87 (0, 0)) ∧ Below w0q.heap.size w0q wx)
    case first =>
      refine anyT_begin (R := But (fun b => w0q.heap.size ≤ b)) 10 rfl (by kernel_rfl) ?_
      have hd : Later w0q w0q.drew := Later.drew w0q
      have pd := (hd.block gq (Array.getElem?_eq_some_iff.1 qk).1).trans qk
      have bd : Below w0q.heap.size w0q w0q.drew := hd
      generalize w0q.drew = Wd at *
      have ha : ∀ v1, But (fun b => w0q.heap.size ≤ b) Wd v1 → ∀ i, v1.cell? ⟨gq, i, none⟩ = #[Value.int .u8 q1, .int .u16 q2, .bool q3, .int .u8 q4, .int .u8 pr, .int .u32 qs, .int .u32 qd, .slice b7 l7 c7, .slice (some ⟨g8, 0, none⟩) dq.length c8][i]? := fun v1 h => block_cell ((h.block gq (Array.getElem?_eq_some_iff.1 pd).1 (by omega)).trans pd)
      have hz : w0q.heap.size ≤ Wd.heap.size := bd.size
      refine anyT_val (But.pre _) 1 rfl (by kernel_rfl) (by kernel_rfl) (by kernel_rfl) (fun _ _ _ _ h => h) rfl ?_; apply Exists.intro; refine ⟨fun v1 hv1 => ?_, ?_⟩; (· (go_simp; rfl)); simp only [Act.put, List.setIfInBounds_toArray, List.set_cons_zero, List.set_cons_succ]
      refine anyT_val (But.pre _) 2 rfl (by kernel_rfl) (by kernel_rfl) (by kernel_rfl) (fun _ _ _ _ h => h) rfl ?_; apply Exists.intro; refine ⟨fun v1 hv1 => ?_, ?_⟩; (· (go_simp; rfl)); simp only [Act.put, List.setIfInBounds_toArray, List.set_cons_zero, List.set_cons_succ]
      refine anyT_two 0 7 rfl rfl (by kernel_rfl) rfl rfl ?_ ?_
      · skip
        refine wp_enter 49 #[] (by go_simp) ?_
        refine (readers_any Wd).mono ?_
        rintro e W3 ⟨m, rfl, hb3, hM3⟩
        have l3 : Later Wd W3 := hb3
        refine ⟨But.of l3, ?_⟩
        simp only [Act.put, List.setIfInBounds_toArray, List.set_cons_zero, List.set_cons_succ]
        have hlk := look_none hno hM3
        refine anyT_two 3 7 rfl rfl (by kernel_rfl) rfl rfl ?_ ?_
        · unfold Oper.wp
          go_simp
          refine ⟨But.refl _ _, ?_⟩
          clear hlk
          refine anyT_val (But.pre _) 4 rfl (by kernel_rfl) (by kernel_rfl) (by kernel_rfl) (fun _ _ _ _ h => h) rfl ?_; apply Exists.intro; refine ⟨fun v1 hv1 => ?_, ?_⟩; (· (go_simp; rfl)); simp only [Act.put, List.setIfInBounds_toArray, List.set_cons_zero, List.set_cons_succ]
          refine anyT_val (But.pre _) 5 rfl (by kernel_rfl) (by kernel_rfl) (by kernel_rfl) (fun _ _ _ _ h => h) rfl ?_; apply Exists.intro; refine ⟨fun v1 hv1 => ?_, ?_⟩; (· (go_simp; rfl)); simp only [Act.put, List.setIfInBounds_toArray, List.set_cons_zero, List.set_cons_succ]
          refine anyT_val (But.pre _) 6 rfl (by kernel_rfl) (by kernel_rfl) (by kernel_rfl) (fun _ _ _ _ h => h) rfl ?_; apply Exists.intro; refine ⟨fun v1 hv1 => ?_, ?_⟩; (· (go_simp; rfl)); simp only [Act.put, List.setIfInBounds_toArray, List.set_cons_zero, List.set_cons_succ]
          refine anyT_one 7 rfl (by kernel_rfl) rfl ?_
          unfold Oper.wp
          go_simp
          have l4 : Later W3 (W3.alloc (.cells #[.nilFunc, .nilFunc] 87)) := (Below.refl _ _).alloc (Nat.le_refl _) _
          have g4 := heap_alloc_new W3 (.cells #[.nilFunc, .nilFunc] 87)
          have b4 : Below w0q.heap.size w0q (W3.alloc (.cells #[.nilFunc, .nilFunc] 87)) := (bd.trans (l3.mono hz)).trans (l4.mono (Nat.le_trans hz l3.size))
          have hge : w0q.heap.size ≤ W3.heap.size := Nat.le_trans hz l3.size
          refine ⟨But.of l4, ?_⟩
          generalize W3.alloc (.cells #[.nilFunc, .nilFunc] 87) = W4 at *
          generalize W3.heap.size = g at *
          have kg := block_cell g4
          have fg := block_frozen g4
          have hsf := run_store_nf Tryz.prog
          refine anyT_one 8 rfl (by kernel_rfl) rfl ?_
          unfold Oper.wp
          go_simp
          generalize hV : (W4.setCell ⟨g, 0, none⟩ _).setCell ⟨g, 1, none⟩ _ = V
          have hV8 : V = putRow W4 (g) 0 [.nilFunc, .nilFunc] := hV.symm
          have hbV : But (fun b => w0q.heap.size ≤ b) W4 V := by rw [hV8]; exact putRow_but (E := fun b => w0q.heap.size ≤ b) (n := g) hge _ _ _ _ (But.refl _ _)
          have pV := putRow_all [Value.nilFunc, .nilFunc] g4 rfl
          rw [← hV8] at pV
          clear hV hV8 kg fg hsf
          refine ⟨hbV, ?_⟩
          refine anyT_one 9 rfl (by kernel_rfl) rfl ?_
          unfold Oper.wp
          go_simp
          refine ⟨But.refl _ _, ?_⟩
          refine anyT_done (by kernel_rfl) ?_
          have hbl : Below w0q.heap.size w0q V := b4.trans (hbV.below b4.size (fun k hk e => by omega))
          clear ha
          go_wp2_with fail
          go_meet
          exact ⟨_, rfl, rfl, pV, hbl⟩
        · unfold Oper.wp
          go_simp
          have l4 : Later W3 (W3.alloc (.cells #[.nilFunc, .nilFunc] 87)) := (Below.refl _ _).alloc (Nat.le_refl _) _
          have g4 := heap_alloc_new W3 (.cells #[.nilFunc, .nilFunc] 87)
          have b4 : Below w0q.heap.size w0q (W3.alloc (.cells #[.nilFunc, .nilFunc] 87)) := (bd.trans (l3.mono hz)).trans (l4.mono (Nat.le_trans hz l3.size))
          have hge : w0q.heap.size ≤ W3.heap.size := Nat.le_trans hz l3.size
          have hM4 := (l4.block m (Array.getElem?_eq_some_iff.1 hM3).1).trans hM3
          refine ⟨But.of l4, ?_⟩
          clear hlk
          generalize W3.alloc (.cells #[.nilFunc, .nilFunc] 87) = W4 at *
          generalize W3.heap.size = g at *
          have hlk := look_none hno hM4
          refine anyT_one 3 rfl (by kernel_rfl) rfl ?_
          unfold Oper.wp
          go_simp
          refine ⟨But.refl _ _, ?_⟩
          clear hlk
          refine anyT_val (But.pre _) 4 rfl (by kernel_rfl) (by kernel_rfl) (by kernel_rfl) (fun _ _ _ _ h => h) rfl ?_; apply Exists.intro; refine ⟨fun v1 hv1 => ?_, ?_⟩; (· (go_simp; rfl)); simp only [Act.put, List.setIfInBounds_toArray, List.set_cons_zero, List.set_cons_succ]
          refine anyT_val (But.pre _) 5 rfl (by kernel_rfl) (by kernel_rfl) (by kernel_rfl) (fun _ _ _ _ h => h) rfl ?_; apply Exists.intro; refine ⟨fun v1 hv1 => ?_, ?_⟩; (· (go_simp; rfl)); simp only [Act.put, List.setIfInBounds_toArray, List.set_cons_zero, List.set_cons_succ]
          refine anyT_val (But.pre _) 6 rfl (by kernel_rfl) (by kernel_rfl) (by kernel_rfl) (fun _ _ _ _ h => h) rfl ?_; apply Exists.intro; refine ⟨fun v1 hv1 => ?_, ?_⟩; (· (go_simp; rfl)); simp only [Act.put, List.setIfInBounds_toArray, List.set_cons_zero, List.set_cons_succ]
          have kg := block_cell g4
          have fg := block_frozen g4
          have hsf := run_store_nf Tryz.prog
          refine anyT_one 8 rfl (by kernel_rfl) rfl ?_
          unfold Oper.wp
          go_simp
          generalize hV : (W4.setCell ⟨g, 0, none⟩ _).setCell ⟨g, 1, none⟩ _ = V
          have hV8 : V = putRow W4 (g) 0 [.nilFunc, .nilFunc] := hV.symm
          have hbV : But (fun b => w0q.heap.size ≤ b) W4 V := by rw [hV8]; exact putRow_but (E := fun b => w0q.heap.size ≤ b) (n := g) hge _ _ _ _ (But.refl _ _)
          have pV := putRow_all [Value.nilFunc, .nilFunc] g4 rfl
          rw [← hV8] at pV
          clear hV hV8 kg fg hsf
          refine ⟨hbV, ?_⟩
          refine anyT_one 9 rfl (by kernel_rfl) rfl ?_
          unfold Oper.wp
          go_simp
          refine ⟨But.refl _ _, ?_⟩
          refine anyT_done (by kernel_rfl) ?_
          have hbl : Below w0q.heap.size w0q V := b4.trans (hbV.below b4.size (fun k hk e => by omega))
          clear ha
          go_wp2_with fail
          go_meet
          exact ⟨_, rfl, rfl, pV, hbl⟩
      · unfold Oper.wp
        go_simp
        have l4 : Later Wd (Wd.alloc (.cells #[.nilFunc, .nilFunc] 87)) := (Below.refl _ _).alloc (Nat.le_refl _) _
        have g4 := heap_alloc_new Wd (.cells #[.nilFunc, .nilFunc] 87)
        have b4 : Below w0q.heap.size w0q (Wd.alloc (.cells #[.nilFunc, .nilFunc] 87)) := bd.trans (l4.mono hz)
        refine ⟨But.of l4, ?_⟩
        have hge : w0q.heap.size ≤ Wd.heap.size := hz
        generalize Wd.alloc (.cells #[.nilFunc, .nilFunc] 87) = W4 at *
        generalize Wd.heap.size = g at *
        refine anyT_one 0 rfl (by kernel_rfl) rfl ?_
        refine wp_enter 49 #[] (by go_simp) ?_
        refine (readers_any W4).mono ?_
        rintro e W5 ⟨m, rfl, hb5, hM5⟩
        have l5 : Later W4 W5 := hb5
        have g5 := (l5.block g (Array.getElem?_eq_some_iff.1 g4).1).trans g4
        have b5 : Below w0q.heap.size w0q W5 := b4.trans (l5.mono b4.size)
        refine ⟨But.of l5, ?_⟩
        simp only [Act.put, List.setIfInBounds_toArray, List.set_cons_zero, List.set_cons_succ]
        have hlk := look_none hno hM5
        refine anyT_one 3 rfl (by kernel_rfl) rfl ?_
        unfold Oper.wp
        go_simp
        refine ⟨But.refl _ _, ?_⟩
        clear hlk
        refine anyT_val (But.pre _) 4 rfl (by kernel_rfl) (by kernel_rfl) (by kernel_rfl) (fun _ _ _ _ h => h) rfl ?_; apply Exists.intro; refine ⟨fun v1 hv1 => ?_, ?_⟩; (· (go_simp; rfl)); simp only [Act.put, List.setIfInBounds_toArray, List.set_cons_zero, List.set_cons_succ]
        refine anyT_val (But.pre _) 5 rfl (by kernel_rfl) (by kernel_rfl) (by kernel_rfl) (fun _ _ _ _ h => h) rfl ?_; apply Exists.intro; refine ⟨fun v1 hv1 => ?_, ?_⟩; (· (go_simp; rfl)); simp only [Act.put, List.setIfInBounds_toArray, List.set_cons_zero, List.set_cons_succ]
        refine anyT_val (But.pre _) 6 rfl (by kernel_rfl) (by kernel_rfl) (by kernel_rfl) (fun _ _ _ _ h => h) rfl ?_; apply Exists.intro; refine ⟨fun v1 hv1 => ?_, ?_⟩; (· (go_simp; rfl)); simp only [Act.put, List.setIfInBounds_toArray, List.set_cons_zero, List.set_cons_succ]
        have kg := block_cell g5
        have fg := block_frozen g5
        have hsf := run_store_nf Tryz.prog
        refine anyT_one 8 rfl (by kernel_rfl) rfl ?_
        unfold Oper.wp
        go_simp
        generalize hV : (W5.setCell ⟨g, 0, none⟩ _).setCell ⟨g, 1, none⟩ _ = V
        have hV8 : V = putRow W5 (g) 0 [.nilFunc, .nilFunc] := hV.symm
        have hbV : But (fun b => w0q.heap.size ≤ b) W5 V := by rw [hV8]; exact putRow_but (E := fun b => w0q.heap.size ≤ b) (n := g) hge _ _ _ _ (But.refl _ _)
        have pV := putRow_all [Value.nilFunc, .nilFunc] g5 rfl
        rw [← hV8] at pV
        clear hV hV8 kg fg hsf
        refine ⟨hbV, ?_⟩
        refine anyT_one 9 rfl (by kernel_rfl) rfl ?_
        unfold Oper.wp
        go_simp
        refine ⟨But.refl _ _, ?_⟩
        refine anyT_done (by kernel_rfl) ?_
        have hbl : Below w0q.heap.size w0q V := b5.trans (hbV.below b5.size (fun k hk e => by omega))
        clear ha
        go_wp2_with fail
        go_meet
        exact ⟨_, rfl, rfl, pV, hbl⟩
    case rest =>
      obtain ⟨g, rfl, rfl, hg, hbc⟩ := hcut
      have rX := (hbc.block _ (Array.getElem?_eq_some_iff.1 r3).1).trans r3
      have hwX := hw3.trans (hbc.mono hw3.size)
      have kX := block_cell rX
      have fX := block_frozen rX
      go_wp2_with fail
      generalize hV : ((((wc.setCell ⟨w.heap.size + 1, 0, none⟩ _).setCell ⟨w.heap.size + 1, 1, none⟩ _).setCell ⟨w.heap.size + 1, 2, none⟩ _).setCell ⟨w.heap.size + 1, 3, none⟩ _).setCell ⟨w.heap.size + 1, 4, none⟩ _ = V
      have hV8 : V = putRow wc (w.heap.size + 1) 0 [.int .u8 0, .int .u32 0, .int .u32 0, .int .u16 0, .int .u16 0] := hV.symm
      have hbV : But (fun b => b = w.heap.size + 1) wc V := by rw [hV8]; exact putRow_but (E := fun b => b = w.heap.size + 1) (n := w.heap.size + 1) rfl _ _ _ _ (But.refl _ _)
      have pV := putRow_all ([.int .u8 0, .int .u32 0, .int .u32 0, .int .u16 0, .int .u16 0] : List Value) rX rfl
      rw [← hV8] at pV
      clear hV hV8 kX fX
      have PV := block_cell pV
      have hwV : Below w.heap.size w V := hwX.trans (hbV.below hwX.size (fun k hk e => by omega))
      exact bodyPost_ret (v := .tuple #[.agg #[.int .u8 0, .int .u32 0, .int .u32 0, .int .u16 0, .int .u16 0], .int .i64 12]) (by simp [results, Tryz.results19, go_sem, PV]) rfl ⟨hwV, rfl⟩

theorem take8 (d : List Int) (h : 8 ≤ d.length) : d.take 8 = [d[0]?.getD 0, d[1]?.getD 0, d[2]?.getD 0, d[3]?.getD 0, d[4]?.getD 0, d[5]?.getD 0, d[6]?.getD 0, d[7]?.getD 0] := by
  match d, h with
  | x0 :: x1 :: x2 :: x3 :: x4 :: x5 :: x6 :: x7 :: r, _ => rfl
theorem By8 {d : List Int} (hB : Mt.By d) (h : 8 ≤ d.length) : Mt.By [d[0]?.getD 0, d[1]?.getD 0, d[2]?.getD 0, d[3]?.getD 0, d[4]?.getD 0, d[5]?.getD 0, d[6]?.getD 0, d[7]?.getD 0] := by rw [← take8 d h]; exact hB.take 8
theorem g8_0 (d : List Int) : getAt2 [d[0]?.getD 0, d[1]?.getD 0, d[2]?.getD 0, d[3]?.getD 0, d[4]?.getD 0, d[5]?.getD 0, d[6]?.getD 0, d[7]?.getD 0] 0 = wat d 0 := rfl
theorem g8_2 (d : List Int) : getAt2 [d[0]?.getD 0, d[1]?.getD 0, d[2]?.getD 0, d[3]?.getD 0, d[4]?.getD 0, d[5]?.getD 0, d[6]?.getD 0, d[7]?.getD 0] 2 = wat d 2 := rfl
theorem g8_4 (d : List Int) : getAt2 [d[0]?.getD 0, d[1]?.getD 0, d[2]?.getD 0, d[3]?.getD 0, d[4]?.getD 0, d[5]?.getD 0, d[6]?.getD 0, d[7]?.getD 0] 4 = wat d 4 := rfl
theorem g8_6 (d : List Int) : getAt2 [d[0]?.getD 0, d[1]?.getD 0, d[2]?.getD 0, d[3]?.getD 0, d[4]?.getD 0, d[5]?.getD 0, d[6]?.getD 0, d[7]?.getD 0] 6 = wat d 6 := rfl
theorem qdt_len {mz : List Int} (hB : Mt.By mz) (h : rde true mz = 0) : 8 ≤ (qdt mz).length := by
  unfold rde at h
  have hh := hl4_bd hB
  by_cases h1 : msr mz ≠ 0
  · rw [if_pos h1] at h; exact absurd h h1
  rw [if_neg h1] at h
  by_cases h2 : (mz.length : Int) < ral true mz
  · rw [if_pos h2] at h; exact absurd h (by decide)
  rw [if_neg h2] at h
  by_cases h3 : chk mz ≠ 0
  · rw [if_pos h3] at h; exact absurd h h3
  rw [if_neg h3] at h
  by_cases h4 : ral true mz - hl4 mz < 8
  · rw [if_pos ⟨rfl, h4⟩] at h; exact absurd h (by decide)
  unfold qdt
  rw [List.length_drop, List.length_take]
  omega
theorem By_qdt {mz : List Int} (hB : Mt.By mz) : Mt.By (qdt mz) := (hB.take _).drop _

theorem cf_two (args : Array Value) (w : World) : (callFunc 80 args).run Tryz.prog w = .ok (.enter 80 args) w := by kernel_rfl

theorem cf_echo (args : Array Value) (w : World) : (callFunc 83 args).run Tryz.prog w = .ok (.enter 83 args) w := by kernel_rfl

theorem cf_begin (args : Array Value) (w : World) : (callFunc 85 args).run Tryz.prog w = .ok (.enter 85 args) w := by kernel_rfl

def quv (proto : Int) (zd : List Int) : Value := otv (que proto zd) (qpr (zd.drop 8)) (wat4 (zd.drop 8) 12) (wat4 (zd.drop 8) 16) (qia (qpr (zd.drop 8)) (qdt (zd.drop 8))) (qib (qpr (zd.drop 8)) (qdt (zd.drop 8)))

set_option maxHeartbeats 2000000 in
theorem quoted_any (tos id ttl proto src dst : Int) (keep : Bool) (so sd : Value) (zd : List Int) (w : World) (hT : Tb w) (hB : Mt.By zd) (hI : Rd w.heap.size w sd zd) (hl : zd.length ≤ 140737488355328) :
    Calls Tryz.prog 19 #[.agg #[.int .u8 tos, .int .u16 id, .bool keep, .int .u8 ttl, .int .u8 proto, .int .u32 src, .int .u32 dst, so, sd]] w fun e w' => Below w.heap.size w w' ∧ e = .returned (.tuple #[quv proto zd, .int .i64 (que proto zd)]) := by
  unfold quv
  by_cases hpi : pie proto zd = 0
  · cases her : erb (zd[0]?.getD 0) with
    | false =>
      have hq : que proto zd = 12 := by unfold que; rw [if_neg (fun h => h hpi), if_pos her]
      rw [otv_no (by rw [hq]; decide)]
      exact quoted_bad tos id ttl proto src dst keep so sd zd w hT hB hI hl (.inr (.inl her))
    | true =>
      by_cases hrd : rde true (zd.drop 8) = 0
      · have h8 := qdt_len (hB.drop 8) hrd
        have hBq := By8 (By_qdt (hB.drop 8)) h8
        have hq : que proto zd = qie (qpr (zd.drop 8)) (qdt (zd.drop 8)) := by unfold que; rw [if_neg (fun h => h hpi), if_neg (by rw [her]; decide), if_neg (fun h => h hrd)]
        rw [hq]
        obtain ⟨pr, hpr⟩ : ∃ pr, (zd.drop 8)[9]?.getD 0 = pr := ⟨_, rfl⟩
        rw [show qpr (zd.drop 8) = pr from hpr]
        by_cases h6 : pr = 6
        · subst h6
          exact quoted_gen 6 (wat (qdt (zd.drop 8)) 0) (wat (qdt (zd.drop 8)) 2) 0 _ _ tos id ttl proto src dst keep so sd zd w hT hB hI hl hpi her hrd hpr h8 (fun _ _ h => look_tcp h) cf_two (fun w' hb => (ofTwo_any ((qdt (zd.drop 8))[0]?.getD 0) ((qdt (zd.drop 8))[1]?.getD 0) ((qdt (zd.drop 8))[2]?.getD 0) ((qdt (zd.drop 8))[3]?.getD 0) ((qdt (zd.drop 8))[4]?.getD 0) ((qdt (zd.drop 8))[5]?.getD 0) ((qdt (zd.drop 8))[6]?.getD 0) ((qdt (zd.drop 8))[7]?.getD 0) w' hBq).mono fun e w'' h => ⟨h.1, _, _, h.2, fun _ => ⟨g8_0 _, g8_2 _⟩⟩)
        by_cases h17 : pr = 17
        · subst h17
          exact quoted_gen 17 (wat (qdt (zd.drop 8)) 0) (wat (qdt (zd.drop 8)) 2) 0 _ _ tos id ttl proto src dst keep so sd zd w hT hB hI hl hpi her hrd hpr h8 (fun _ _ h => look_udp h) cf_two (fun w' hb => (ofTwo_any ((qdt (zd.drop 8))[0]?.getD 0) ((qdt (zd.drop 8))[1]?.getD 0) ((qdt (zd.drop 8))[2]?.getD 0) ((qdt (zd.drop 8))[3]?.getD 0) ((qdt (zd.drop 8))[4]?.getD 0) ((qdt (zd.drop 8))[5]?.getD 0) ((qdt (zd.drop 8))[6]?.getD 0) ((qdt (zd.drop 8))[7]?.getD 0) w' hBq).mono fun e w'' h => ⟨h.1, _, _, h.2, fun _ => ⟨g8_0 _, g8_2 _⟩⟩)
        by_cases h1 : pr = 1
        · subst h1
          have hqi : qie 1 (qdt (zd.drop 8)) = if ecb ((qdt (zd.drop 8))[0]?.getD 0) ((qdt (zd.drop 8))[1]?.getD 0) = true then 0 else 12 := rfl
          rw [hqi]
          refine quoted_gen 1 (wat (qdt (zd.drop 8)) 4) (wat (qdt (zd.drop 8)) 4) _ _ _ tos id ttl proto src dst keep so sd zd w hT hB hI hl hpi her hrd hpr h8 (fun _ _ h => look_icmp h) cf_echo (fun w' hb => (ofEcho_any ((qdt (zd.drop 8))[0]?.getD 0) ((qdt (zd.drop 8))[1]?.getD 0) ((qdt (zd.drop 8))[2]?.getD 0) ((qdt (zd.drop 8))[3]?.getD 0) ((qdt (zd.drop 8))[4]?.getD 0) ((qdt (zd.drop 8))[5]?.getD 0) ((qdt (zd.drop 8))[6]?.getD 0) ((qdt (zd.drop 8))[7]?.getD 0) w' hBq).mono fun e w'' h => ?_)
          rcases h with ⟨hb2, ⟨he, rfl⟩ | ⟨he, rfl⟩⟩
          · rw [if_pos he]
            exact ⟨hb2, _, _, rfl, fun _ => ⟨g8_4 _, g8_4 _⟩⟩
          · rw [if_neg (by rw [he]; decide)]
            exact ⟨hb2, _, _, rfl, fun h => absurd h (by decide)⟩
        by_cases h47 : pr = 47
        · subst h47
          have hqi : qie 47 (qdt (zd.drop 8)) = if pge 47 ((qdt (zd.drop 8)).take 8) = 4 then 4 else 0 := rfl
          rw [hqi, take8 _ h8]
          refine quoted_gen 47 0 (wat (qdt (zd.drop 8)) 6) _ _ _ tos id ttl proto src dst keep so sd zd w hT hB hI hl hpi her hrd hpr h8 (fun _ _ h => look_gre h) cf_begin (fun w' hb => (ofBegin_any ((qdt (zd.drop 8))[0]?.getD 0) ((qdt (zd.drop 8))[1]?.getD 0) ((qdt (zd.drop 8))[2]?.getD 0) ((qdt (zd.drop 8))[3]?.getD 0) ((qdt (zd.drop 8))[4]?.getD 0) ((qdt (zd.drop 8))[5]?.getD 0) ((qdt (zd.drop 8))[6]?.getD 0) ((qdt (zd.drop 8))[7]?.getD 0) w' (hT.below hb hT.pos) hBq).mono fun e w'' h => ?_)
          rcases h with ⟨hb2, ⟨he, rfl⟩ | ⟨he, rfl⟩⟩
          · rw [if_pos he]
            exact ⟨hb2, _, _, rfl, fun h => absurd h (by decide)⟩
          · rw [if_neg he]
            exact ⟨hb2, _, _, rfl, fun _ => ⟨rfl, g8_6 _⟩⟩
        have hqi : qie pr (qdt (zd.drop 8)) = 12 := by unfold qie; rw [if_neg h6, if_neg h17, if_neg h1, if_neg h47]
        rw [hqi, otv_no (show (12 : Int) ≠ 0 by decide)]
        exact quoted_other pr tos id ttl proto src dst keep so sd zd w hT hB hI hl hpi her hrd hpr h8 ⟨h6, h17, h1, h47⟩
      · have hq : que proto zd = rde true (zd.drop 8) := by unfold que; rw [if_neg (fun h => h hpi), if_neg (by rw [her]; decide), if_pos hrd]
        rw [otv_no (by rw [hq]; exact hrd)]
        exact quoted_bad tos id ttl proto src dst keep so sd zd w hT hB hI hl (.inr (.inr hrd))
  · have hq : que proto zd = pie proto zd := if_pos hpi
    rw [otv_no (by rw [hq]; exact hpi)]
    exact quoted_bad tos id ttl proto src dst keep so sd zd w hT hB hI hl (.inl hpi)
end Go.Proofs.YtdabhbadcbnkhaaGreatDoor
