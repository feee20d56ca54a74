/- Several texts in one. -/
import Derived.Test.YtdabhbadcbnkhaaDoorX2
import Derived.Test.YtdabhbadcbnkhaaDoorRt
import Derived.Test.YtdabhbadcbnkhaaDoorCB
import Derived.Test.YtdabhbadcbnkhaaDoorX3
import Derived.Test.YtdabhbadcbnkhaaDoorSE
import Derived.Test.YtdabhbadcbnkhaaDoorV5
import Derived.Test.YtdabhbadcbnkhaaDoorRh
/- Package mangle: the map of what is done, and Rewrite. -/
namespace Go.Proofs.YtdabhbadcbnkhaaDoor
open Go.RowKit Go.Shelf
set_option maxRecDepth 100000
set_option linter.unusedVariables false
set_option linter.unusedSimpArgs false

/-- A packet's cells of zeros. -/
abbrev zpk : List Value := [.int .u8 0, .int .u16 0, .bool false, .int .u8 0, .int .u8 0, .int .u32 0, .int .u32 0, .slice none 0 0, .slice none 0 0]

abbrev mth (f : FuncId) (g : Nat) : Value := .func (.func f) #[.pointer (some ⟨g, 0, none⟩)] #[]
def whE (g : Nat) : Array MapEntry := #[⟨.int .u8 6, mth 29 g, 0⟩, ⟨.int .u8 17, mth 30 g, 1⟩, ⟨.int .u8 1, mth 31 g, 2⟩, ⟨.int .u8 47, mth 32 g, 3⟩]

set_option maxHeartbeats 1000000 in
theorem whole_any (g : Nat) (w : World) : Calls Tryd.prog 14 #[.pointer (some ⟨g, 0, none⟩)] w fun e w' => ∃ m, e = .returned (.map (some m)) ∧ Later w w' ∧ w'.heap[m]? = some (.map (whE g) 4) := by
  have hmm := @run_makeMap Tryd.prog
  have hb0 : Below w.heap.size w (w.alloc (.map #[] 0)) := (Below.refl _ _).alloc (Nat.le_refl _) _
  have hM0 := heap_alloc_new w (.map #[] 0)
  obtain ⟨w1, r1, m1, l1⟩ := run_insq (P := Tryd.prog) Tryd.underlying41 Tryd.underlying5 hM0 6 (mth 29 g) (by kernel_rfl)
  obtain ⟨w2, r2, m2, l2⟩ := run_insq (P := Tryd.prog) Tryd.underlying41 Tryd.underlying5 m1 17 (mth 30 g) (by kernel_rfl)
  obtain ⟨w3, r3, m3, l3⟩ := run_insq (P := Tryd.prog) Tryd.underlying41 Tryd.underlying5 m2 1 (mth 31 g) (by kernel_rfl)
  obtain ⟨w4, r4, m4, l4⟩ := run_insq (P := Tryd.prog) Tryd.underlying41 Tryd.underlying5 m3 47 (mth 32 g) (by kernel_rfl)
  have hb4 : Below w.heap.size w w4 := (((hb0.trans (l1 _ (Nat.le_refl _))).trans (l2 _ (Nat.le_refl _))).trans (l3 _ (Nat.le_refl _))).trans (l4 _ (Nat.le_refl _))
  clear m1 m2 m3 l1 l2 l3 l4 hM0 hb0
  have M4 := hide m4
  clear m4
  go_enter Tryd.func14, Tryd.ntmps14
  go_wp2_with fail
  go_ret
  exact ⟨_, rfl, hb4, M4.out⟩

theorem run_findv {P : Program} {q : IntKind} {t kt et : TypeId} (ht : P.underlying t = some (.map kt et)) (hk : P.underlying kt = some (.int q)) {w : World} {b : Nat} {es : Array MapEntry} {c : Nat} (hb : w.heap[b]? = some (.map es c)) (z : Int) (v : Value) (j : Nat)
    (hf : Instr.findNow (.int q) (.int q z) es.toList 0 = some (some (j, v))) : (Instr.lookup t (.map (some b)) (.int q z) false).run P w = .ok v w := by
  have hc : (Instr.checkKey es.isEmpty 10000 kt (.int q z)).run P w = .ok () w := MapKept.run_checkKey (k := .int q z) hk (by simp [MapKept.IsKey]) _ 9999
  simp [Instr.lookup, run_underlying ht, MapKept.run_getObj_map hb, hc, MapKept.run_findKey hk hf, Result.andThen]

/-- What is done of a protocol that has a tuple. -/
def uf (pr : Int) : FuncId := if pr = 6 then 29 else if pr = 17 then 30 else if pr = 1 then 31 else 32
def pok (pr : Int) : Prop := pr = 6 ∨ pr = 17 ∨ pr = 1 ∨ pr = 47
theorem ofe_pok {pr src dst : Int} {zd : List Int} (h : ofe pr src dst zd = 0) : pok pr := by
  unfold ofe at h
  unfold pok
  split at h
  · omega
  split at h
  · omega
  split at h
  · omega
  split at h
  · omega
  · omega
theorem look_uf {pr : Int} (h : pok pr) (g : Nat) {w : World} {m : Nat} (hm : w.heap[m]? = some (.map (whE g) 4)) : (Instr.lookup 41 (.map (some m)) (.int .u8 pr) false).run Tryd.prog w = .ok (mth (uf pr) g) w := by
  rcases h with rfl | rfl | rfl | rfl
  · exact run_findv Tryd.underlying41 Tryd.underlying5 hm 6 _ 0 (by kernel_rfl)
  · exact run_findv Tryd.underlying41 Tryd.underlying5 hm 17 _ 1 (by kernel_rfl)
  · exact run_findv Tryd.underlying41 Tryd.underlying5 hm 1 _ 2 (by kernel_rfl)
  · exact run_findv Tryd.underlying41 Tryd.underlying5 hm 47 _ 3 (by kernel_rfl)
theorem cf_uf {pr : Int} (h : pok pr) (args : Array Value) (w : World) : (callFunc (uf pr) args).run Tryd.prog w = .ok (.enter (uf pr) args) w := by
  rcases h with rfl | rfl | rfl | rfl <;> kernel_rfl
theorem uf_any {pr : Int} {src dst : Int} (base : Nat) (g : Nat) (u : Un) (zs : List Int) (w : World) (hB : Mt.By zs) (h : UR w g u zs) (hb : base ≤ w.heap.size) (hl : 12 + zs.length ≤ 140737488355328) (hu : UOk u) (hpr : u.pr = pr) (ho : ofe pr src dst zs = 0) :
    Calls Tryd.prog (uf pr) #[.pointer (some ⟨g, 0, none⟩)] w fun e w' => UQ base w g u (rwD pr u.s u.d u.a u.b zs) e w' := by
  have hs := hu.1
  have hd := hu.2.1
  have ha := hu.2.2.1
  have hbb := hu.2.2.2
  unfold ofe at ho
  by_cases h6 : pr = 6
  · subst h6
    rw [if_pos rfl] at ho
    rw [show uf 6 = 29 from rfl, show rwD 6 u.s u.d u.a u.b zs = rwT u.s u.d u.a u.b zs from by unfold rwD; rw [if_pos rfl]]
    exact usegment_any base g u zs w hB h hb hl (rwT_pte (s := u.s) (d := u.d) (a := u.a) (b := u.b) hB ho hs hd ha hbb).2.2.2.1 hu hpr
  rw [if_neg h6] at ho
  by_cases h17 : pr = 17
  · subst h17
    rw [if_pos rfl] at ho
    rw [show uf 17 = 30 from rfl, show rwD 17 u.s u.d u.a u.b zs = rwU u.s u.d u.a u.b zs from by unfold rwD; rw [if_neg h6, if_pos rfl]]
    exact udatagram_any base g u zs w hB h hb hl (rwU_pue (s := u.s) (d := u.d) (a := u.a) (b := u.b) hB ho hs hd ha hbb).2 hu hpr
  rw [if_neg h17] at ho
  by_cases h1 : pr = 1
  · subst h1
    rw [if_pos rfl] at ho
    rw [show uf 1 = 31 from rfl, show rwD 1 u.s u.d u.a u.b zs = rwI u.a zs from by unfold rwD; rw [if_neg h6, if_neg h17, if_pos rfl]]
    exact umessage_any base g u zs w hB h hb (by omega) (rwI_oie (a := u.a) hB ho ha).2.2.2 hu
  rw [if_neg h1] at ho
  by_cases h47 : pr = 47
  · subst h47
    rw [if_pos rfl] at ho
    rw [show uf 47 = 32 from rfl, show rwD 47 u.s u.d u.a u.b zs = rwG u.b zs from by unfold rwD; rw [if_neg h6, if_neg h17, if_neg h1]]
    exact uframe_any base g u zs w h hb (by omega) (rwG_pge (b := u.b) ho).2.2 hu
  · rw [if_neg h47] at ho
    omega

/-- What Rewrite refuses with (0: nothing). -/
def rwe (pr tp src dst : Int) (lo : Nat) (zd : List Int) : Int := if pr ≠ tp then 12 else if ofe pr src dst zd ≠ 0 then ofe pr src dst zd else flt lo zd.length
end Go.Proofs.YtdabhbadcbnkhaaDoor

/- Package mangle: Rewrite. -/
namespace Go.Proofs.YtdabhbadcbnkhaaDoor
open Go.RowKit Go.Shelf
set_option maxRecDepth 100000
set_option linter.unusedVariables false
set_option linter.unusedSimpArgs false

theorem later_alloc' (w : World) (o : Obj) : Later w (w.alloc o) := (Below.refl _ _).alloc (Nat.le_refl _) _

set_option maxHeartbeats 16000000 in
theorem rewrite_any (tos id ttl pr src dst : Int) (keep : Bool) (so sd : Value) (zo zd : List Int) (tp s d a b : Int) (w : World) (hT : Tb w) (hBo : Mt.By zo) (hBd : Mt.By zd) (hIo : Rd w.heap.size w so zo) (hId : Rd w.heap.size w sd zd) (hlo : zo.length ≤ 140737488355328) (hl : zd.length ≤ 140737488351232)
    (ht : 0 ≤ tos ∧ tos ≤ 255) (hid : 0 ≤ id ∧ id ≤ 65535) (htt : 0 ≤ ttl ∧ ttl ≤ 255) (hpr : 0 ≤ pr ∧ pr ≤ 255) (hsr : 0 ≤ src ∧ src ≤ 4294967295) (hds : 0 ≤ dst ∧ dst ≤ 4294967295) (hs : 0 ≤ s ∧ s ≤ 4294967295) (hd : 0 ≤ d ∧ d ≤ 4294967295) (ha : 0 ≤ a ∧ a ≤ 65535) (hb : 0 ≤ b ∧ b ≤ 65535) :
    Calls Tryd.prog 6 #[.agg #[.int .u8 tos, .int .u16 id, .bool keep, .int .u8 ttl, .int .u8 pr, .int .u32 src, .int .u32 dst, so, sd], .agg #[.int .u8 tp, .int .u32 s, .int .u32 d, .int .u16 a, .int .u16 b]] w fun e w' => Below w.heap.size w w' ∧ ((rwe pr tp src dst zo.length zd ≠ 0 ∧ e = .returned (.tuple #[.agg zpk.toArray, .int .i64 (rwe pr tp src dst zo.length zd)])) ∨
      (rwe pr tp src dst zo.length zd = 0 ∧ ∃ ao co ad cd, e = .returned (.tuple #[.agg #[.int .u8 tos, .int .u16 id, .bool keep, .int .u8 ttl, .int .u8 pr, .int .u32 s, .int .u32 d, .slice ao zo.length co, .slice ad zd.length cd], .int .i64 0]) ∧ Ow w.heap.size w' (.slice ao zo.length co) zo ∧ Ow w.heap.size w' (.slice ad zd.length cd) (rwD pr s d a b zd))) := by
  obtain ⟨ao, co, rfl, hlo1, hmo1⟩ := hIo.slice
  obtain ⟨ad, cd, rfl, hl1, hm1⟩ := hId.slice
  have hb0 : Below w.heap.size w (((w.alloc (.cells #[.int .u8 tos, .int .u16 id, .bool keep, .int .u8 ttl, .int .u8 pr, .int .u32 src, .int .u32 dst, .slice ao zo.length co, .slice ad zd.length cd] 26)).alloc (.cells #[.int .u8 tp, .int .u32 s, .int .u32 d, .int .u16 a, .int .u16 b] 28)).alloc (.cells zpk.toArray 26)) := (((Below.refl _ _).alloc (Nat.le_refl _) _).alloc (by simp) _).alloc (by simp <;> omega) _
  have p0 : (((w.alloc (.cells #[.int .u8 tos, .int .u16 id, .bool keep, .int .u8 ttl, .int .u8 pr, .int .u32 src, .int .u32 dst, .slice ao zo.length co, .slice ad zd.length cd] 26)).alloc (.cells #[.int .u8 tp, .int .u32 s, .int .u32 d, .int .u16 a, .int .u16 b] 28)).alloc (.cells zpk.toArray 26)).heap[w.heap.size]? = some (.cells #[.int .u8 tos, .int .u16 id, .bool keep, .int .u8 ttl, .int .u8 pr, .int .u32 src, .int .u32 dst, .slice ao zo.length co, .slice ad zd.length cd] 26) := (Below.heap_alloc _ _ _ (by simp <;> omega)).trans ((Below.heap_alloc _ _ _ (by simp)).trans (heap_alloc_new w _))
  have t0 : (((w.alloc (.cells #[.int .u8 tos, .int .u16 id, .bool keep, .int .u8 ttl, .int .u8 pr, .int .u32 src, .int .u32 dst, .slice ao zo.length co, .slice ad zd.length cd] 26)).alloc (.cells #[.int .u8 tp, .int .u32 s, .int .u32 d, .int .u16 a, .int .u16 b] 28)).alloc (.cells zpk.toArray 26)).heap[w.heap.size + 1]? = some (.cells #[.int .u8 tp, .int .u32 s, .int .u32 d, .int .u16 a, .int .u16 b] 28) := by
    have := heap_alloc_new (w.alloc (.cells #[.int .u8 tos, .int .u16 id, .bool keep, .int .u8 ttl, .int .u8 pr, .int .u32 src, .int .u32 dst, .slice ao zo.length co, .slice ad zd.length cd] 26)) (.cells #[.int .u8 tp, .int .u32 s, .int .u32 d, .int .u16 a, .int .u16 b] 28)
    rw [World.size_alloc] at this
    exact (Below.heap_alloc _ _ _ (by simp)).trans this
  have r0 : (((w.alloc (.cells #[.int .u8 tos, .int .u16 id, .bool keep, .int .u8 ttl, .int .u8 pr, .int .u32 src, .int .u32 dst, .slice ao zo.length co, .slice ad zd.length cd] 26)).alloc (.cells #[.int .u8 tp, .int .u32 s, .int .u32 d, .int .u16 a, .int .u16 b] 28)).alloc (.cells zpk.toArray 26)).heap[w.heap.size + 1 + 1]? = some (.cells zpk.toArray 26) := by
    have := heap_alloc_new ((w.alloc (.cells #[.int .u8 tos, .int .u16 id, .bool keep, .int .u8 ttl, .int .u8 pr, .int .u32 src, .int .u32 dst, .slice ao zo.length co, .slice ad zd.length cd] 26)).alloc (.cells #[.int .u8 tp, .int .u32 s, .int .u32 d, .int .u16 a, .int .u16 b] 28)) (.cells zpk.toArray 26)
    simpa only [World.size_alloc] using this
  have P0 := hide p0
  have T0 := hide t0
  have R0 := hide r0
  clear p0 t0 r0
  go_enter Tryd.func6, Tryd.ntmps6
  go_upto_region 1 with fail
  generalize ((w.alloc _).alloc _).alloc _ = W0 at *
  have kP := block_cell P0.out
  have kT := block_cell T0.out
  by_cases c1 : pr = tp
  case neg =>
    have t1 : (pr != tp) = true := by simp [c1]
    have HF : Hid (rwe pr tp src dst zo.length zd = 12) := by show _ = _; unfold rwe; rw [if_pos c1]
    have HNZ : Hid ((12 : Int) ≠ 0) := by show (12 : Int) ≠ 0; decide
    have kR := block_cell R0.out
    have fR := block_frozen R0.out
    clear c1
    go_wp2_with fail
    generalize hV : (((((((((W0.setCell ⟨w.heap.size + 1 + 1, 0, none⟩ _).setCell ⟨w.heap.size + 1 + 1, 1, none⟩ _).setCell ⟨w.heap.size + 1 + 1, 2, none⟩ _).setCell ⟨w.heap.size + 1 + 1, 3, none⟩ _).setCell ⟨w.heap.size + 1 + 1, 4, none⟩ _).setCell ⟨w.heap.size + 1 + 1, 5, none⟩ _).setCell ⟨w.heap.size + 1 + 1, 6, none⟩ _).setCell ⟨w.heap.size + 1 + 1, 7, none⟩ _).setCell ⟨w.heap.size + 1 + 1, 8, none⟩ _) = V8; have hV9 : V8 = putRow W0 (w.heap.size + 1 + 1) 0 zpk := hV.symm; have hb8 : But (fun b => b = w.heap.size + 1 + 1) W0 V8 := by { rw [hV9]; exact putRow_but (E := fun b => b = w.heap.size + 1 + 1) (n := w.heap.size + 1 + 1) rfl _ _ _ _ (But.refl _ _) }; have p8 := putRow_all zpk R0.out rfl; rw [← hV9] at p8; clear hV hV9; have P8 := block_cell p8; have hw8 : Below w.heap.size w V8 := (hb0).trans (hb8.below (hb0).size (fun k h e => by omega)); exact bodyPost_ret (v := .tuple #[.agg zpk.toArray, .int .i64 12]) (by simp [results, Tryd.results6, go_sem, P8, zpk]) rfl ⟨hw8, .inl ⟨by rw [HF.out]; exact HNZ.out, by rw [HF.out]⟩⟩
  subst c1
  have t1 : (pr != pr) = false := by simp
  have hs0 : w.heap.size + 1 + 1 < W0.heap.size := (Array.getElem?_eq_some_iff.1 R0.out).1
  go_upto_region 3 with fail
  go_wp2_with fail
  refine (of_any tos id ttl pr src dst keep _ _ zd W0 (hT.below hb0 hT.pos) hBd ((hId.below hb0).mono hb0.size) (by omega) hsr hds).mono ?_
  obtain ⟨oe, HO⟩ : ∃ e, Hid (ofe pr src dst zd = e) := ⟨_, rfl⟩
  rw [HO.out]
  rintro e w1 ⟨hb1, rfl⟩
  have l1 : Later W0 w1 := hb1
  have hw1 : Below w.heap.size w w1 := Later.below hb0 (Nat.le_refl _) l1
  by_cases c2 : oe = 0
  case neg =>
    rw [otv_no c2]
    have t2 : (oe != 0) = true := by simp [c2]
    have HF : Hid (rwe pr pr src dst zo.length zd = oe) := by show _ = _; unfold rwe; rw [if_neg (by simp), HO.out, if_pos c2]
    have HNZ : Hid (oe ≠ 0) := c2
    have r1 := (l1.block (w.heap.size + 1 + 1) hs0).trans R0.out
    have lA := later_alloc' w1 (.cells #[.int .u8 0, .int .u32 0, .int .u32 0, .int .u16 0, .int .u16 0] 28)
    have r2 := (lA.block (w.heap.size + 1 + 1) (Array.getElem?_eq_some_iff.1 r1).1).trans r1
    have hw2 : Below w.heap.size w (w1.alloc (.cells #[.int .u8 0, .int .u32 0, .int .u32 0, .int .u16 0, .int .u16 0] 28)) := Later.below hw1 (Nat.le_refl _) lA
    have R2 := hide r2
    clear c2 kP kT r1 r2 lA
    go_upto_region 4 with fail
    generalize w1.alloc _ = w2 at *
    have kR := block_cell R2.out
    have fR := block_frozen R2.out
    go_wp2_with fail
    generalize hV : (((((((((w2.setCell ⟨w.heap.size + 1 + 1, 0, none⟩ _).setCell ⟨w.heap.size + 1 + 1, 1, none⟩ _).setCell ⟨w.heap.size + 1 + 1, 2, none⟩ _).setCell ⟨w.heap.size + 1 + 1, 3, none⟩ _).setCell ⟨w.heap.size + 1 + 1, 4, none⟩ _).setCell ⟨w.heap.size + 1 + 1, 5, none⟩ _).setCell ⟨w.heap.size + 1 + 1, 6, none⟩ _).setCell ⟨w.heap.size + 1 + 1, 7, none⟩ _).setCell ⟨w.heap.size + 1 + 1, 8, none⟩ _) = V8; have hV9 : V8 = putRow w2 (w.heap.size + 1 + 1) 0 zpk := hV.symm; have hb8 : But (fun b => b = w.heap.size + 1 + 1) w2 V8 := by { rw [hV9]; exact putRow_but (E := fun b => b = w.heap.size + 1 + 1) (n := w.heap.size + 1 + 1) rfl _ _ _ _ (But.refl _ _) }; have p8 := putRow_all zpk R2.out rfl; rw [← hV9] at p8; clear hV hV9; have P8 := block_cell p8; have hw8 : Below w.heap.size w V8 := (hw2).trans (hb8.below (hw2).size (fun k h e => by omega)); exact bodyPost_ret (v := .tuple #[.agg zpk.toArray, .int .i64 oe]) (by simp [results, Tryd.results6, go_sem, P8, zpk]) rfl ⟨hw8, .inl ⟨by rw [HF.out]; exact HNZ.out, by rw [HF.out]⟩⟩
  subst c2
  have hok := ofe_pok HO.out
  rw [otv_ok]
  have HFL : Hid (rwe pr pr src dst zo.length zd = flt zo.length zd.length) := by show _ = _; unfold rwe; rw [if_neg (by simp), HO.out, if_neg (by simp)]
  generalize ofa pr zd = wa at *
  generalize ofb pr zd = wb at *
  have P1 := hide ((l1.block w.heap.size (by omega)).trans P0.out)
  have T1 := hide ((l1.block (w.heap.size + 1) (by omega)).trans T0.out)
  have R1 := hide ((l1.block (w.heap.size + 1 + 1) hs0).trans R0.out)
  have hs1 : w.heap.size + 1 + 1 < w1.heap.size := Nat.lt_of_lt_of_le hs0 l1.size
  have lA := later_alloc' w1 (.cells #[.int .u8 pr, .int .u32 src, .int .u32 dst, .int .u16 wa, .int .u16 wb] 28)
  have W2 := hide (heap_alloc_new w1 (.cells #[.int .u8 pr, .int .u32 src, .int .u32 dst, .int .u16 wa, .int .u16 wb] 28))
  clear kP kT P0 T0 R0
  go_upto_region 6 with fail
  generalize w1.alloc _ = w2 at *
  have P2 := hide ((lA.block w.heap.size (by omega)).trans P1.out)
  have T2 := hide ((lA.block (w.heap.size + 1) (by omega)).trans T1.out)
  have R2 := hide ((lA.block (w.heap.size + 1 + 1) hs1).trans R1.out)
  have hs2 : w1.heap.size < w2.heap.size := (Array.getElem?_eq_some_iff.1 W2.out).1
  have hw2 : Below w.heap.size w w2 := Later.below hw1 (Nat.le_refl _) lA
  have kP := block_cell P2.out
  have kT := block_cell T2.out
  have kW := block_cell W2.out
  have lB := later_alloc' w2 (.cells #[.slice ad zd.length cd, .int .u8 pr, .int .u32 src, .int .u32 dst, .int .u16 wa, .int .u16 wb, .int .u8 pr, .int .u32 s, .int .u32 d, .int .u16 a, .int .u16 b] 40)
  have U3 : Hid (UB (w2.alloc (.cells #[.slice ad zd.length cd, .int .u8 pr, .int .u32 src, .int .u32 dst, .int .u16 wa, .int .u16 wb, .int .u8 pr, .int .u32 s, .int .u32 d, .int .u16 a, .int .u16 b] 40)) w2.heap.size ⟨pr, src, dst, wa, wb, pr, s, d, a, b⟩ (.slice ad zd.length cd)) := heap_alloc_new w2 _
  clear P1 T1 R1
  go_upto_region 7 with fail
  generalize w2.alloc _ = w3 at *
  clear kP kT kW
  generalize hg : w2.heap.size = g at *
  have P3 := hide ((lB.block w.heap.size (by omega)).trans P2.out)
  have T3 := hide ((lB.block (w.heap.size + 1) (by omega)).trans T2.out)
  have R3 := hide ((lB.block (w.heap.size + 1 + 1) (by omega)).trans R2.out)
  have hw3 : Below w.heap.size w w3 := Later.below hw2 (Nat.le_refl _) lB
  have hg3 : g < w3.heap.size := (Array.getElem?_eq_some_iff.1 U3.out).1
  have hsg : w.heap.size + 1 + 1 < g := by omega
  have hId3 : Rd w3.heap.size w3 (.slice ad zd.length cd) zd := (hId.below hw3).mono hw3.size
  have HG := hide hg
  clear hg lA lB P2 T2 R2 W2 hs2
  refine anyT_begin (R := But (fun q => q = g)) 5 rfl (by kernel_rfl) ?_
  have hdr : Later w3 w3.drew := Later.drew w3
  have P4 := hide ((hdr.block w.heap.size (by omega)).trans P3.out)
  have T4 := hide ((hdr.block (w.heap.size + 1) (by omega)).trans T3.out)
  have R4 := hide ((hdr.block (w.heap.size + 1 + 1) (by omega)).trans R3.out)
  have hUR : UR w3.drew g ⟨pr, src, dst, wa, wb, pr, s, d, a, b⟩ zd := (show UR w3 g ⟨pr, src, dst, wa, wb, pr, s, d, a, b⟩ zd from ⟨_, U3.out, hId3⟩).later hdr
  have hw4 : Below w.heap.size w w3.drew := Later.below hw3 (Nat.le_refl _) hdr
  have hg4 : g < w3.drew.heap.size := Nat.lt_of_lt_of_le hg3 hdr.size
  generalize w3.drew = w4 at *
  have qT : ∀ v1, But (fun q => q = g) w4 v1 → ∀ i, v1.cell? ⟨w.heap.size + 1, i, none⟩ = #[Value.int .u8 pr, .int .u32 s, .int .u32 d, .int .u16 a, .int .u16 b][i]? := fun v1 h => block_cell ((h.block (w.heap.size + 1) (by omega) (by omega)).trans T4.out)
  refine anyT_val (But.pre _) 1 rfl (by kernel_rfl) (by kernel_rfl) (by kernel_rfl) (fun _ _ _ _ h => h) rfl ?_; apply Exists.intro; refine ⟨fun v1 hv1 => ?_, ?_⟩; (· (go_simp; rfl)); simp only [Act.put, List.setIfInBounds_toArray, List.set_cons_zero, List.set_cons_succ]
  refine anyT_val (But.pre _) 2 rfl (by kernel_rfl) (by kernel_rfl) (by kernel_rfl) (fun _ _ _ _ h => h) rfl ?_; apply Exists.intro; refine ⟨fun v1 hv1 => ?_, ?_⟩; (· (go_simp; rfl)); simp only [Act.put, List.setIfInBounds_toArray, List.set_cons_zero, List.set_cons_succ]
  clear qT
  refine anyT_one 0 rfl (by kernel_rfl) rfl ?_
  refine wp_enter 14 #[.pointer (some ⟨g, 0, none⟩)] (by go_simp) ((whole_any g w4).mono ?_)
  rintro e w5 ⟨m, rfl, l5, hm5⟩
  refine ⟨But.of l5, ?_⟩
  simp only [Act.put, List.setIfInBounds_toArray, List.set_cons_zero, List.set_cons_succ]
  have hmg : m ≠ g := by
    intro e
    subst e
    obtain ⟨bv, hx, _⟩ := hUR.later l5
    rw [UB, hm5] at hx
    cases hx
  have qL : ∀ v1, But (fun q => q = g) w5 v1 → (Instr.lookup 41 (.map (some m)) (.int .u8 pr) false).run Tryd.prog v1 = .ok (mth (uf pr) g) v1 := fun v1 h => look_uf hok g ((h.block m (Array.getElem?_eq_some_iff.1 hm5).1 hmg).trans hm5)
  refine anyT_val (But.pre _) 3 rfl (by kernel_rfl) (by kernel_rfl) (by kernel_rfl) (fun _ _ _ _ h => h) rfl ?_; apply Exists.intro; refine ⟨fun v1 hv1 => ?_, ?_⟩; (· (go_simp; rfl)); simp only [Act.put, List.setIfInBounds_toArray, List.set_cons_zero, List.set_cons_succ]
  clear qL
  refine anyT_one 4 rfl (by kernel_rfl) rfl ?_
  have hcf := cf_uf hok #[.pointer (some ⟨g, 0, none⟩)] w5
  refine wp_enter (uf pr) #[.pointer (some ⟨g, 0, none⟩)] (by go_simp) ((uf_any (pr := pr) w.heap.size g ⟨pr, src, dst, wa, wb, pr, s, d, a, b⟩ zd w5 hBd (hUR.later l5) (Nat.le_trans hw4.size l5.size) (by omega) ⟨hs, hd, ha, hb⟩ rfl HO.out).mono ?_)
  rintro e w6 ⟨rfl, S6, b6⟩
  refine ⟨b6, ?_⟩
  simp only [Act.put, List.setIfInBounds_toArray, List.set_cons_zero, List.set_cons_succ]
  refine anyT_done (by kernel_rfl) ?_
  obtain ⟨bv6, hU6, hO6⟩ := S6
  obtain ⟨a6, c6, rfl, _, _⟩ := hO6.slice
  rw [rwD_length] at hU6 hO6
  have b46 : But (fun q => q = g) w4 w6 := (But.of l5).trans b6
  have P6 := hide ((b46.block w.heap.size (by omega) (by omega)).trans P4.out)
  have T6 := hide ((b46.block (w.heap.size + 1) (by omega) (by omega)).trans T4.out)
  have R6 := hide ((b46.block (w.heap.size + 1 + 1) (by omega) (by omega)).trans R4.out)
  have hw6 : Below w.heap.size w w6 := hw4.trans (b46.below hw4.size (fun k hk e => by omega))
  have hg6 : g < w6.heap.size := Nat.lt_of_lt_of_le hg4 b46.size
  have U6 := hide hU6
  have O6 := hide hO6
  clear hU6 hO6 b6 l5 hm5 hmg b46 P4 T4 R4 hUR hw4 hg4 hcf P3 T3 R3 U3 hId3 hw3 hg3 hdr
  go_upto_region 8 with fail
  refine anyT_begin (R := But (fun q => q = w.heap.size)) 17 rfl (by kernel_rfl) ?_
  have hdr : Later w6 w6.drew := Later.drew w6
  have P7 := hide ((hdr.block w.heap.size (by omega)).trans P6.out)
  have T7 := hide ((hdr.block (w.heap.size + 1) (by omega)).trans T6.out)
  have R7 := hide ((hdr.block (w.heap.size + 1 + 1) (by omega)).trans R6.out)
  have U7 := hide (U6.out.later hdr)
  have O7 := hide (O6.out.later hdr)
  have hw7 : Below w.heap.size w w6.drew := Later.below hw6 (Nat.le_refl _) hdr
  have hg7 : g < w6.drew.heap.size := Nat.lt_of_lt_of_le hg6 hdr.size
  generalize w6.drew = w7 at *
  have qT : ∀ v1, But (fun q => q = w.heap.size) w7 v1 → ∀ i, v1.cell? ⟨w.heap.size + 1, i, none⟩ = #[Value.int .u8 pr, .int .u32 s, .int .u32 d, .int .u16 a, .int .u16 b][i]? := fun v1 h => block_cell ((h.block (w.heap.size + 1) (by omega) (by omega)).trans T7.out)
  have qU : ∀ v1, But (fun q => q = w.heap.size) w7 v1 → ∀ i, v1.cell? ⟨g, i, none⟩ = #[Value.slice a6 zd.length c6, .int .u8 pr, .int .u32 src, .int .u32 dst, .int .u16 wa, .int .u16 wb, .int .u8 pr, .int .u32 s, .int .u32 d, .int .u16 a, .int .u16 b][i]? := fun v1 h => block_cell ((h.block g hg7 (by omega)).trans U7.out)
  refine anyT_val (But.pre _) 0 rfl (by kernel_rfl) (by kernel_rfl) (by kernel_rfl) (fun _ _ _ _ h => h) rfl ?_; apply Exists.intro; refine ⟨fun v1 hv1 => ?_, ?_⟩; (· (go_simp; rfl)); simp only [Act.put, List.setIfInBounds_toArray, List.set_cons_zero, List.set_cons_succ]
  refine anyT_val (But.pre _) 1 rfl (by kernel_rfl) (by kernel_rfl) (by kernel_rfl) (fun _ _ _ _ h => h) rfl ?_; apply Exists.intro; refine ⟨fun v1 hv1 => ?_, ?_⟩; (· (go_simp; rfl)); simp only [Act.put, List.setIfInBounds_toArray, List.set_cons_zero, List.set_cons_succ]
  refine anyT_val (But.pre _) 2 rfl (by kernel_rfl) (by kernel_rfl) (by kernel_rfl) (fun _ _ _ _ h => h) rfl ?_; apply Exists.intro; refine ⟨fun v1 hv1 => ?_, ?_⟩; (· (go_simp; rfl)); simp only [Act.put, List.setIfInBounds_toArray, List.set_cons_zero, List.set_cons_succ]
  refine anyT_val (But.pre _) 3 rfl (by kernel_rfl) (by kernel_rfl) (by kernel_rfl) (fun _ _ _ _ h => h) rfl ?_; apply Exists.intro; refine ⟨fun v1 hv1 => ?_, ?_⟩; (· (go_simp; rfl)); simp only [Act.put, List.setIfInBounds_toArray, List.set_cons_zero, List.set_cons_succ]
  refine anyT_val (But.pre _) 4 rfl (by kernel_rfl) (by kernel_rfl) (by kernel_rfl) (fun _ _ _ _ h => h) rfl ?_; apply Exists.intro; refine ⟨fun v1 hv1 => ?_, ?_⟩; (· (go_simp; rfl)); simp only [Act.put, List.setIfInBounds_toArray, List.set_cons_zero, List.set_cons_succ]
  refine anyT_val (But.pre _) 7 rfl (by kernel_rfl) (by kernel_rfl) (by kernel_rfl) (fun _ _ _ _ h => h) rfl ?_; apply Exists.intro; refine ⟨fun v1 hv1 => ?_, ?_⟩; (· (go_simp; rfl)); simp only [Act.put, List.setIfInBounds_toArray, List.set_cons_zero, List.set_cons_succ]
  refine anyT_val (But.pre _) 8 rfl (by kernel_rfl) (by kernel_rfl) (by kernel_rfl) (fun _ _ _ _ h => h) rfl ?_; apply Exists.intro; refine ⟨fun v1 hv1 => ?_, ?_⟩; (· (go_simp; rfl)); simp only [Act.put, List.setIfInBounds_toArray, List.set_cons_zero, List.set_cons_succ]
  clear qT qU
  have kP := block_cell P7.out
  refine anyT_one 5 rfl (by kernel_rfl) rfl ?_
  unfold Oper.wp
  go_simp
  refine ⟨But.refl _ _, ?_⟩
  clear kP
  refine anyT_val (But.pre _) 9 rfl (by kernel_rfl) (by kernel_rfl) (by kernel_rfl) (fun _ _ _ _ h => h) rfl ?_; apply Exists.intro; refine ⟨fun v1 hv1 => ?_, ?_⟩; (· (go_simp; rfl)); simp only [Act.put, List.setIfInBounds_toArray, List.set_cons_zero, List.set_cons_succ]
  refine anyT_one 6 rfl (by kernel_rfl) rfl ?_
  refine wp_enter 15 #[.slice ao zo.length co] (by go_simp) ((cloneb_any _ zo w7 (by omega) ((hIo.below hw7).mono hw7.size)).mono ?_)
  rintro e w8 ⟨a8, c8, rfl, hO8, hb8⟩
  have l8 : Later w7 w8 := hb8
  refine ⟨But.of l8, ?_⟩
  simp only [Act.put, List.setIfInBounds_toArray, List.set_cons_zero, List.set_cons_succ]
  have P8 := hide ((l8.block w.heap.size (by omega)).trans P7.out)
  have R8 := hide ((l8.block (w.heap.size + 1 + 1) (by omega)).trans R7.out)
  have O8 := hide (hO8.mono hw7.size)
  have D8 := hide (O7.out.later l8)
  have hw8 : Below w.heap.size w w8 := Later.below hw7 (Nat.le_refl _) l8
  have hs8 : w.heap.size + 1 + 1 < w8.heap.size := Nat.lt_of_lt_of_le (by omega) l8.size
  have Bw8 : But (fun q => q = w.heap.size) w8 w8 := But.refl _ _
  clear hO8 hb8 P7 T7 R7 U7 O7 hw7 hg7 l8 hdr U6 O6 T6 R6 P6
  have kS := block_cell P8.out
  have fS := block_frozen P8.out
  have P9 := hide (heap_set1 P8.out 5 (.int .u32 s))
  have bt : Hid (But (fun q => q = w.heap.size) w8 (w8.setCell ⟨w.heap.size, 5, none⟩ (.int .u32 s))) := But.setCell (E := fun q => q = w.heap.size) (But.refl _ _) (p := ⟨w.heap.size, 5, none⟩) rfl _
  refine anyT_one 10 rfl (by kernel_rfl) rfl ?_
  unfold Oper.wp
  go_simp
  refine ⟨bt.out, ?_⟩
  have Bw9 := Bw8.trans bt.out
  clear bt kS fS
  generalize w8.setCell ⟨w.heap.size, 5, none⟩ _ = w9 at *
  refine anyT_val (But.pre _) 11 rfl (by kernel_rfl) (by kernel_rfl) (by kernel_rfl) (fun _ _ _ _ h => h) rfl ?_; apply Exists.intro; refine ⟨fun v1 hv1 => ?_, ?_⟩; (· (go_simp; rfl)); simp only [Act.put, List.setIfInBounds_toArray, List.set_cons_zero, List.set_cons_succ]
  have kS := block_cell P9.out
  have fS := block_frozen P9.out
  have P10 := hide (heap_set1 P9.out 6 (.int .u32 d))
  have bt : Hid (But (fun q => q = w.heap.size) w9 (w9.setCell ⟨w.heap.size, 6, none⟩ (.int .u32 d))) := But.setCell (E := fun q => q = w.heap.size) (But.refl _ _) (p := ⟨w.heap.size, 6, none⟩) rfl _
  refine anyT_one 12 rfl (by kernel_rfl) rfl ?_
  unfold Oper.wp
  go_simp
  refine ⟨bt.out, ?_⟩
  have Bw10 := Bw9.trans bt.out
  clear bt kS fS
  generalize w9.setCell ⟨w.heap.size, 6, none⟩ _ = w10 at *
  refine anyT_val (But.pre _) 13 rfl (by kernel_rfl) (by kernel_rfl) (by kernel_rfl) (fun _ _ _ _ h => h) rfl ?_; apply Exists.intro; refine ⟨fun v1 hv1 => ?_, ?_⟩; (· (go_simp; rfl)); simp only [Act.put, List.setIfInBounds_toArray, List.set_cons_zero, List.set_cons_succ]
  have kS := block_cell P10.out
  have fS := block_frozen P10.out
  have P11 := hide (heap_set1 P10.out 7 (.slice a8 zo.length c8))
  have bt : Hid (But (fun q => q = w.heap.size) w10 (w10.setCell ⟨w.heap.size, 7, none⟩ (.slice a8 zo.length c8))) := But.setCell (E := fun q => q = w.heap.size) (But.refl _ _) (p := ⟨w.heap.size, 7, none⟩) rfl _
  refine anyT_one 14 rfl (by kernel_rfl) rfl ?_
  unfold Oper.wp
  go_simp
  refine ⟨bt.out, ?_⟩
  have Bw11 := Bw10.trans bt.out
  clear bt kS fS
  generalize w10.setCell ⟨w.heap.size, 7, none⟩ _ = w11 at *
  refine anyT_val (But.pre _) 15 rfl (by kernel_rfl) (by kernel_rfl) (by kernel_rfl) (fun _ _ _ _ h => h) rfl ?_; apply Exists.intro; refine ⟨fun v1 hv1 => ?_, ?_⟩; (· (go_simp; rfl)); simp only [Act.put, List.setIfInBounds_toArray, List.set_cons_zero, List.set_cons_succ]
  have kS := block_cell P11.out
  have fS := block_frozen P11.out
  have P12 := hide (heap_set1 P11.out 8 (.slice a6 zd.length c6))
  have bt : Hid (But (fun q => q = w.heap.size) w11 (w11.setCell ⟨w.heap.size, 8, none⟩ (.slice a6 zd.length c6))) := But.setCell (E := fun q => q = w.heap.size) (But.refl _ _) (p := ⟨w.heap.size, 8, none⟩) rfl _
  refine anyT_one 16 rfl (by kernel_rfl) rfl ?_
  unfold Oper.wp
  go_simp
  refine ⟨bt.out, ?_⟩
  have Bw12 := Bw11.trans bt.out
  clear bt kS fS
  generalize w11.setCell ⟨w.heap.size, 8, none⟩ _ = w12 at *
  refine anyT_done (by kernel_rfl) ?_
  have P13 : Hid (w12.heap[w.heap.size]? = some (.cells #[.int .u8 tos, .int .u16 id, .bool keep, .int .u8 ttl, .int .u8 pr, .int .u32 s, .int .u32 d, .slice a8 zo.length c8, .slice a6 zd.length c6] 26)) := by have := P12.out; simp at this; exact this
  have R13 := hide ((Bw12.block (w.heap.size + 1 + 1) hs8 (by omega)).trans R8.out)
  have O13 := hide (Ow.aside O8.out P8.out (by decide) Bw12)
  have D13 := hide (Ow.aside D8.out P8.out (by decide) Bw12)
  have hw12 : Below w.heap.size w w12 := hw8.trans (Bw12.below hw8.size (fun k hk e => by omega))
  have hs12 : w.heap.size + 1 + 1 < w12.heap.size := Nat.lt_of_lt_of_le hs8 Bw12.size
  clear P8 P9 P10 P11 P12 R8 O8 D8 Bw8 Bw9 Bw10 Bw11 Bw12 hw8 hs8
  have kP := block_cell P13.out
  obtain ⟨fl, HFF⟩ : ∃ f, Hid (flt zo.length zd.length = f) := ⟨_, rfl⟩
  by_cases c3 : fl = 0
  case neg =>
    have hfn : flt zo.length zd.length ≠ 0 := by rw [HFF.out]; exact c3
    have t3 : (fl != 0) = true := by simp [c3]
    have HF : Hid (rwe pr pr src dst zo.length zd = fl) := by show _ = _; rw [HFL.out, HFF.out]
    have HNZ : Hid (fl ≠ 0) := c3
    have HBN := hide (build_no tos id ttl pr s d keep a8 a6 zo.length c8 zd.length c6 w12 (by omega) (by omega) hfn)
    rw [HFF.out] at HBN
    clear c3 hfn
    go_wp2_with fail
    refine HBN.out.mono ?_
    rintro e w13 ⟨rfl, hb13⟩
    have l13 : Later w12 w13 := hb13
    have R14 := hide ((l13.block (w.heap.size + 1 + 1) hs12).trans R13.out)
    have hw13 : Below w.heap.size w w13 := Later.below hw12 (Nat.le_refl _) l13
    have kR := block_cell R14.out
    have fR := block_frozen R14.out
    clear kP
    go_wp2_with fail
    generalize hV : (((((((((w13.setCell ⟨w.heap.size + 1 + 1, 0, none⟩ _).setCell ⟨w.heap.size + 1 + 1, 1, none⟩ _).setCell ⟨w.heap.size + 1 + 1, 2, none⟩ _).setCell ⟨w.heap.size + 1 + 1, 3, none⟩ _).setCell ⟨w.heap.size + 1 + 1, 4, none⟩ _).setCell ⟨w.heap.size + 1 + 1, 5, none⟩ _).setCell ⟨w.heap.size + 1 + 1, 6, none⟩ _).setCell ⟨w.heap.size + 1 + 1, 7, none⟩ _).setCell ⟨w.heap.size + 1 + 1, 8, none⟩ _) = V8; have hV9 : V8 = putRow w13 (w.heap.size + 1 + 1) 0 zpk := hV.symm; have hb8 : But (fun b => b = w.heap.size + 1 + 1) w13 V8 := by { rw [hV9]; exact putRow_but (E := fun b => b = w.heap.size + 1 + 1) (n := w.heap.size + 1 + 1) rfl _ _ _ _ (But.refl _ _) }; have p8 := putRow_all zpk R14.out rfl; rw [← hV9] at p8; clear hV hV9; have P8 := block_cell p8; have hw8 : Below w.heap.size w V8 := (hw13).trans (hb8.below (hw13).size (fun k h e => by omega)); exact bodyPost_ret (v := .tuple #[.agg zpk.toArray, .int .i64 fl]) (by simp [results, Tryd.results6, go_sem, P8, zpk]) rfl ⟨hw8, .inl ⟨by rw [HF.out]; exact HNZ.out, by rw [HF.out]⟩⟩
  subst c3
  have hfit := flt_fit2 HFF.out
  have HF : Hid (rwe pr pr src dst zo.length zd = 0) := by show _ = _; rw [HFL.out, HFF.out]
  have HBY := hide (build_yes tos id ttl pr s d keep (.slice a8 zo.length c8) (.slice a6 zd.length c6) zo (rwD pr s d a b zd) w12 hBo O13.out.rd D13.out.rd hfit.1 hfit.2.1 (by rw [rwD_length]; exact hfit.2.2) ht hid htt hpr hs hd)
  clear hfit
  go_wp2_with fail
  refine HBY.out.mono ?_
  rintro e w13 ⟨bv, rfl, hOb, hb13⟩
  have l13 : Later w12 w13 := hb13
  have P14 := hide ((l13.block w.heap.size (by omega)).trans P13.out)
  have R14 := hide ((l13.block (w.heap.size + 1 + 1) hs12).trans R13.out)
  have O14 := hide (O13.out.later l13)
  have D14 := hide (D13.out.later l13)
  have hw13 : Below w.heap.size w w13 := Later.below hw12 (Nat.le_refl _) l13
  clear kP hOb HBY hb13 l13 P13 R13 O13 D13
  have kP := block_cell P14.out
  have kR := block_cell R14.out
  have fR := block_frozen R14.out
  go_wp2_with fail
  generalize hV : (((((((((w13.setCell ⟨w.heap.size + 1 + 1, 0, none⟩ _).setCell ⟨w.heap.size + 1 + 1, 1, none⟩ _).setCell ⟨w.heap.size + 1 + 1, 2, none⟩ _).setCell ⟨w.heap.size + 1 + 1, 3, none⟩ _).setCell ⟨w.heap.size + 1 + 1, 4, none⟩ _).setCell ⟨w.heap.size + 1 + 1, 5, none⟩ _).setCell ⟨w.heap.size + 1 + 1, 6, none⟩ _).setCell ⟨w.heap.size + 1 + 1, 7, none⟩ _).setCell ⟨w.heap.size + 1 + 1, 8, none⟩ _) = V8
  have hV9 : V8 = putRow w13 (w.heap.size + 1 + 1) 0 [.int .u8 tos, .int .u16 id, .bool keep, .int .u8 ttl, .int .u8 pr, .int .u32 s, .int .u32 d, .slice a8 zo.length c8, .slice a6 zd.length c6] := hV.symm
  have hb8 : But (fun b => b = w.heap.size + 1 + 1) w13 V8 := by rw [hV9]; exact putRow_but (E := fun b => b = w.heap.size + 1 + 1) (n := w.heap.size + 1 + 1) rfl _ _ _ _ (But.refl _ _)
  have p8 := putRow_all [.int .u8 tos, .int .u16 id, .bool keep, .int .u8 ttl, .int .u8 pr, .int .u32 s, .int .u32 d, .slice a8 zo.length c8, .slice a6 zd.length c6] R14.out rfl
  rw [← hV9] at p8
  clear hV hV9
  have P8 := block_cell p8
  have hw8 : Below w.heap.size w V8 := hw13.trans (hb8.below hw13.size (fun k h e => by omega))
  exact bodyPost_ret (v := .tuple #[.agg #[.int .u8 tos, .int .u16 id, .bool keep, .int .u8 ttl, .int .u8 pr, .int .u32 s, .int .u32 d, .slice a8 zo.length c8, .slice a6 zd.length c6], .int .i64 0]) (by simp [results, Tryd.results6, go_sem, P8]) rfl ⟨hw8, .inr ⟨HF.out, a8, c8, a6, c6, rfl, Ow.aside O14.out R14.out (by decide) hb8, Ow.aside D14.out R14.out (by decide) hb8⟩⟩
end Go.Proofs.YtdabhbadcbnkhaaDoor

/- The document's With: a packet with other data, of its own. -/
namespace Go.Proofs.YtdabhbadcbnkhaaDoor
open Go.RowKit Go.Shelf
set_option maxRecDepth 100000
set_option linter.unusedVariables false
set_option linter.unusedSimpArgs false

/-- Bytes of one's own stay where another block turns that holds no bytes. -/
theorem Ow.apart {base mb : Nat} {W W' : World} {v : Value} {zs : List Int} {cur : Array Value} {t : TypeId} (h : Ow base W v zs) (hm : W.heap[mb]? = some (.cells cur t (0, 0))) (ht : t ≠ 5) (hb : But (fun b => b = mb) W W') : Ow base W' v zs := by
  rcases h with h | ⟨g, cap, c, h1, h2, h3, h4, h5, h6, h7⟩
  · exact .inl h
  · refine .inr ⟨g, cap, c, h1, h2, h3, h4, h5, (hb.block g (Array.getElem?_eq_some_iff.1 h6).1 (fun e => ?_)).trans h6, h7⟩
    subst e
    rw [hm] at h6
    simp at h6
    exact ht h6.2

set_option maxHeartbeats 8000000 in
theorem rwith_any (tos id ttl proto src dst pr : Int) (keep : Bool) (so sx : Value) (ad : Option Addr) (ld cd : Nat) (zo zx : List Int) (w : World) (hIo : Rd w.heap.size w so zo) (hIx : Rd w.heap.size w sx zx) (h1 : zo.length ≤ 140737488355328) (h2 : zx.length ≤ 140737488355328) :
    Calls Tryd.prog 35 #[.agg #[.int .u8 tos, .int .u16 id, .bool keep, .int .u8 ttl, .int .u8 proto, .int .u32 src, .int .u32 dst, so, .slice ad ld cd], .int .u8 pr, sx] w fun e w' => Below w.heap.size w w' ∧ ((flt zo.length zx.length ≠ 0 ∧ e = .returned (.tuple #[.agg #[.int .u8 0, .int .u16 0, .bool false, .int .u8 0, .int .u8 0, .int .u32 0, .int .u32 0, .slice none 0 0, .slice none 0 0], .int .i64 (flt zo.length zx.length)])) ∨
      (flt zo.length zx.length = 0 ∧ ∃ a7 c7 a8 c8, e = .returned (.tuple #[.agg #[.int .u8 tos, .int .u16 id, .bool keep, .int .u8 ttl, .int .u8 pr, .int .u32 src, .int .u32 dst, .slice a7 zo.length c7, .slice a8 zx.length c8], .int .i64 0]) ∧ Ow w.heap.size w' (.slice a7 zo.length c7) zo ∧ Ow w.heap.size w' (.slice a8 zx.length c8) zx)) := by
  obtain ⟨ao, co, rfl, _, _⟩ := hIo.slice
  obtain ⟨ax, cx, rfl, _, _⟩ := hIx.slice
  have hb0 : Below w.heap.size w ((w.alloc (.cells #[.int .u8 tos, .int .u16 id, .bool keep, .int .u8 ttl, .int .u8 proto, .int .u32 src, .int .u32 dst, .slice ao zo.length co, .slice ad ld cd] 26)).alloc (.cells #[.int .u8 0, .int .u16 0, .bool false, .int .u8 0, .int .u8 0, .int .u32 0, .int .u32 0, .slice none 0 0, .slice none 0 0] 26)) := ((Below.refl _ _).alloc (Nat.le_refl _) _).alloc (by simp) _
  by_cases c1 : 40 < zo.length
  · have t1 : (40 : Int) < zo.length := by omega
    have HF : Hid (flt zo.length zx.length = 4) := by show _ = _; unfold flt; rw [if_pos (.inl c1)]
    go_enter Tryd.func35, Tryd.ntmps35
    go_wp2_with fail
    exact bodyPost_ret (v := .tuple #[.agg #[.int .u8 0, .int .u16 0, .bool false, .int .u8 0, .int .u8 0, .int .u32 0, .int .u32 0, .slice none 0 0, .slice none 0 0], .int .i64 4]) (by simp [results, Tryd.results35, go_sem]) rfl ⟨hb0, .inl ⟨by rw [HF.out]; decide, by rw [HF.out]⟩⟩
  · have t1 : ¬ (40 : Int) < zo.length := by omega
    by_cases c2 : zo.length % 4 = 0
    · have t2 : ((zo.length : Int) % 4 != 0) = false := by simp; omega
      by_cases c3 : 65535 < 20 + zo.length + zx.length
      · have t3 : (65535 : Int) < 20 + zo.length + zx.length := by omega
        have HF : Hid (flt zo.length zx.length = 8) := by show _ = _; unfold flt; rw [if_neg (by omega), if_pos c3]
        go_enter Tryd.func35, Tryd.ntmps35
        go_wp2_with fail
        exact bodyPost_ret (v := .tuple #[.agg #[.int .u8 0, .int .u16 0, .bool false, .int .u8 0, .int .u8 0, .int .u32 0, .int .u32 0, .slice none 0 0, .slice none 0 0], .int .i64 8]) (by simp [results, Tryd.results35, go_sem]) rfl ⟨hb0, .inl ⟨by rw [HF.out]; decide, by rw [HF.out]⟩⟩
      · have t3 : ¬ (65535 : Int) < 20 + zo.length + zx.length := by omega
        have HF : Hid (flt zo.length zx.length = 0) := by show _ = _; unfold flt; rw [if_neg (by omega), if_neg c3]
        go_enter Tryd.func35, Tryd.ntmps35
        obtain ⟨i0, hi, hz0, hz1, hz2⟩ := info_parts info_u8
        go_upto_region 7 with fail
        have p1 : (((w.alloc (.cells #[.int .u8 tos, .int .u16 id, .bool keep, .int .u8 ttl, .int .u8 proto, .int .u32 src, .int .u32 dst, .slice ao zo.length co, .slice ad ld cd] 26)).alloc (.cells #[.int .u8 0, .int .u16 0, .bool false, .int .u8 0, .int .u8 0, .int .u32 0, .int .u32 0, .slice none 0 0, .slice none 0 0] 26)).alloc (.cells #[.int .u8 tos, .int .u16 id, .bool keep, .int .u8 ttl, .int .u8 pr, .int .u32 src, .int .u32 dst, .slice ao zo.length co, .slice ad ld cd] 26)).heap[w.heap.size]? = some (.cells #[.int .u8 tos, .int .u16 id, .bool keep, .int .u8 ttl, .int .u8 proto, .int .u32 src, .int .u32 dst, .slice ao zo.length co, .slice ad ld cd] 26) := (Below.heap_alloc _ _ _ (by simp; omega)).trans ((Below.heap_alloc _ _ _ (by simp)).trans (heap_alloc_new w _))
        have r1 : (((w.alloc (.cells #[.int .u8 tos, .int .u16 id, .bool keep, .int .u8 ttl, .int .u8 proto, .int .u32 src, .int .u32 dst, .slice ao zo.length co, .slice ad ld cd] 26)).alloc (.cells #[.int .u8 0, .int .u16 0, .bool false, .int .u8 0, .int .u8 0, .int .u32 0, .int .u32 0, .slice none 0 0, .slice none 0 0] 26)).alloc (.cells #[.int .u8 tos, .int .u16 id, .bool keep, .int .u8 ttl, .int .u8 pr, .int .u32 src, .int .u32 dst, .slice ao zo.length co, .slice ad ld cd] 26)).heap[w.heap.size + 1]? = some (.cells #[.int .u8 0, .int .u16 0, .bool false, .int .u8 0, .int .u8 0, .int .u32 0, .int .u32 0, .slice none 0 0, .slice none 0 0] 26 (0, 0)) := by
          have := heap_alloc_new (w.alloc (.cells #[.int .u8 tos, .int .u16 id, .bool keep, .int .u8 ttl, .int .u8 proto, .int .u32 src, .int .u32 dst, .slice ao zo.length co, .slice ad ld cd] 26)) (.cells #[.int .u8 0, .int .u16 0, .bool false, .int .u8 0, .int .u8 0, .int .u32 0, .int .u32 0, .slice none 0 0, .slice none 0 0] 26)
          rw [World.size_alloc] at this
          exact (Below.heap_alloc _ _ _ (by simp)).trans this
        have qq : (((w.alloc (.cells #[.int .u8 tos, .int .u16 id, .bool keep, .int .u8 ttl, .int .u8 proto, .int .u32 src, .int .u32 dst, .slice ao zo.length co, .slice ad ld cd] 26)).alloc (.cells #[.int .u8 0, .int .u16 0, .bool false, .int .u8 0, .int .u8 0, .int .u32 0, .int .u32 0, .slice none 0 0, .slice none 0 0] 26)).alloc (.cells #[.int .u8 tos, .int .u16 id, .bool keep, .int .u8 ttl, .int .u8 pr, .int .u32 src, .int .u32 dst, .slice ao zo.length co, .slice ad ld cd] 26)).heap[w.heap.size + 1 + 1]? = some (.cells #[.int .u8 tos, .int .u16 id, .bool keep, .int .u8 ttl, .int .u8 pr, .int .u32 src, .int .u32 dst, .slice ao zo.length co, .slice ad ld cd] 26) := by
          have := heap_alloc_new ((w.alloc (.cells #[.int .u8 tos, .int .u16 id, .bool keep, .int .u8 ttl, .int .u8 proto, .int .u32 src, .int .u32 dst, .slice ao zo.length co, .slice ad ld cd] 26)).alloc (.cells #[.int .u8 0, .int .u16 0, .bool false, .int .u8 0, .int .u8 0, .int .u32 0, .int .u32 0, .slice none 0 0, .slice none 0 0] 26)) (.cells #[.int .u8 tos, .int .u16 id, .bool keep, .int .u8 ttl, .int .u8 pr, .int .u32 src, .int .u32 dst, .slice ao zo.length co, .slice ad ld cd] 26)
          simpa using this
        have hw1 : Below w.heap.size w (((w.alloc (.cells #[.int .u8 tos, .int .u16 id, .bool keep, .int .u8 ttl, .int .u8 proto, .int .u32 src, .int .u32 dst, .slice ao zo.length co, .slice ad ld cd] 26)).alloc (.cells #[.int .u8 0, .int .u16 0, .bool false, .int .u8 0, .int .u8 0, .int .u32 0, .int .u32 0, .slice none 0 0, .slice none 0 0] 26)).alloc (.cells #[.int .u8 tos, .int .u16 id, .bool keep, .int .u8 ttl, .int .u8 pr, .int .u32 src, .int .u32 dst, .slice ao zo.length co, .slice ad ld cd] 26)) := hb0.alloc (by simp; omega) _
        generalize ((w.alloc (.cells #[.int .u8 tos, .int .u16 id, .bool keep, .int .u8 ttl, .int .u8 proto, .int .u32 src, .int .u32 dst, .slice ao zo.length co, .slice ad ld cd] 26)).alloc (.cells #[.int .u8 0, .int .u16 0, .bool false, .int .u8 0, .int .u8 0, .int .u32 0, .int .u32 0, .slice none 0 0, .slice none 0 0] 26)).alloc (.cells #[.int .u8 tos, .int .u16 id, .bool keep, .int .u8 ttl, .int .u8 pr, .int .u32 src, .int .u32 dst, .slice ao zo.length co, .slice ad ld cd] 26) = W1 at *
        have hs1 : w.heap.size + 1 + 1 < W1.heap.size := (Array.getElem?_eq_some_iff.1 qq).1
        clear t1 t2 t3 c1 c2
        have P1 := block_cell (((Below.refl W1.heap.size W1).alloc (Nat.le_refl _) (.cells #[] 5)).block w.heap.size (by omega) |>.trans p1)
        have la2 : Below W1.heap.size W1 (W1.alloc (.cells #[] 5)) := (Below.refl _ _).alloc (Nat.le_refl _) _
        have ra2 : Rd W1.heap.size (W1.alloc (.cells #[] 5)) _ zo := ((hIo.below hw1).mono hw1.size).below la2
        go_upto_region 8 with (at_builtin; refine wpList_app _ rfl (.tmp 33) (.tmp 35) 24 rfl W1.heap.size 5 i0 Tryd.underlying24 hi hz0 hz1 hz2 _ [] rfl (own_empty W1 _) W1.heap.size _ zo rfl ra2 (by simp; omega) (by simp) ?_; intro v2 w2 ho2 hg2; have hb2 := below_app la2 (own_empty W1 _) hg2 (Nat.le_refl _) la2.size; clear hg2; simp only [List.nil_append] at ho2; have hO2 := Ow.of_row ho2; clear ho2; obtain ⟨a2, c2, rfl, hp2, hm2⟩ := hO2.slice; have q2 := (hb2.block (w.heap.size + 1 + 1) (Array.getElem?_eq_some_iff.1 qq).1).trans qq; have Q2 := block_cell q2; have F2 := block_frozen q2)
        have b2 : But (fun b => b = w.heap.size + 1 + 1) w2 (w2.setCell ⟨w.heap.size + 1 + 1, 7, none⟩ (.slice a2 zo.length c2)) := (But.refl (fun b => b = w.heap.size + 1 + 1) _).setCell (p := ⟨w.heap.size + 1 + 1, 7, none⟩) rfl _
        have qq2 : (w2.setCell ⟨w.heap.size + 1 + 1, 7, none⟩ (.slice a2 zo.length c2)).heap[w.heap.size + 1 + 1]? = some (.cells #[.int .u8 tos, .int .u16 id, .bool keep, .int .u8 ttl, .int .u8 pr, .int .u32 src, .int .u32 dst, .slice a2 zo.length c2, .slice ad ld cd] 26 (0, 0)) := heap_set1 q2 7 _
        have hO3 := hO2.apart q2 (by decide) b2
        have r3 := (b2.block (w.heap.size + 1) (Nat.lt_of_lt_of_le (Array.getElem?_eq_some_iff.1 r1).1 hb2.size) (by omega)).trans ((hb2.block (w.heap.size + 1) (Array.getElem?_eq_some_iff.1 r1).1).trans r1)
        have hw2 := hw1.trans (hb2.mono hw1.size)
        have hw3 : Below w.heap.size w _ := hw2.trans (b2.below hw2.size (fun k hk e => by omega))
        clear Q2 F2 P1 q2 b2 ra2 la2
        generalize w2.setCell ⟨w.heap.size + 1 + 1, 7, none⟩ (.slice a2 zo.length c2) = W3 at *
        clear qq
        have qq := qq2
        clear qq2
        have la4 : Below W3.heap.size W3 (W3.alloc (.cells #[] 5)) := (Below.refl _ _).alloc (Nat.le_refl _) _
        have ra4 : Rd W3.heap.size (W3.alloc (.cells #[] 5)) _ zx := ((hIx.below hw3).mono hw3.size).below la4
        go_upto_region 9 with (at_builtin; refine wpList_app _ rfl (.tmp 38) (.tmp 39) 24 rfl W3.heap.size 5 i0 Tryd.underlying24 hi hz0 hz1 hz2 _ [] rfl (own_empty W3 _) W3.heap.size _ zx rfl ra4 (by simp; omega) (by simp) ?_; intro v4 w4 ho4 hg4; have hb4 := below_app la4 (own_empty W3 _) hg4 (Nat.le_refl _) la4.size; clear hg4; simp only [List.nil_append] at ho4; have hO4 := Ow.of_row ho4; clear ho4; obtain ⟨a4, c4, rfl, hp4, hm4⟩ := hO4.slice; have q4 := (hb4.block (w.heap.size + 1 + 1) (Array.getElem?_eq_some_iff.1 qq).1).trans qq; have Q4 := block_cell q4; have F4 := block_frozen q4)
        have b4 : But (fun b => b = w.heap.size + 1 + 1) w4 (w4.setCell ⟨w.heap.size + 1 + 1, 8, none⟩ (.slice a4 zx.length c4)) := (But.refl (fun b => b = w.heap.size + 1 + 1) _).setCell (p := ⟨w.heap.size + 1 + 1, 8, none⟩) rfl _
        have qq4 : (w4.setCell ⟨w.heap.size + 1 + 1, 8, none⟩ (.slice a4 zx.length c4)).heap[w.heap.size + 1 + 1]? = some (.cells #[.int .u8 tos, .int .u16 id, .bool keep, .int .u8 ttl, .int .u8 pr, .int .u32 src, .int .u32 dst, .slice a2 zo.length c2, .slice a4 zx.length c4] 26 (0, 0)) := heap_set1 q4 8 _
        have hO5 := hO4.apart q4 (by decide) b4
        have hO6 := (hO3.later hb4).apart q4 (by decide) b4
        have r5 := (b4.block (w.heap.size + 1) (Nat.lt_of_lt_of_le (Array.getElem?_eq_some_iff.1 r3).1 hb4.size) (by omega)).trans ((hb4.block (w.heap.size + 1) (Array.getElem?_eq_some_iff.1 r3).1).trans r3)
        have hw4 := hw3.trans (hb4.mono hw3.size)
        have hw5 : Below w.heap.size w _ := hw4.trans (b4.below hw4.size (fun k hk e => by omega))
        clear Q4 F4 q4 b4 ra4 la4
        generalize w4.setCell ⟨w.heap.size + 1 + 1, 8, none⟩ (.slice a4 zx.length c4) = W5 at *
        have hs3 := (Array.getElem?_eq_some_iff.1 r3).1
        have Q5 := block_cell qq4
        have R5 := block_cell r5
        have F5 := block_frozen r5
        go_wp2_with fail
        generalize hV : ((((((((W5.setCell ⟨w.heap.size + 1, 0, none⟩ _).setCell ⟨w.heap.size + 1, 1, none⟩ _).setCell ⟨w.heap.size + 1, 2, none⟩ _).setCell ⟨w.heap.size + 1, 3, none⟩ _).setCell ⟨w.heap.size + 1, 4, none⟩ _).setCell ⟨w.heap.size + 1, 5, none⟩ _).setCell ⟨w.heap.size + 1, 6, none⟩ _).setCell ⟨w.heap.size + 1, 7, none⟩ _).setCell ⟨w.heap.size + 1, 8, none⟩ _ = V8
        have hV9 : V8 = putRow W5 (w.heap.size + 1) 0 [Value.int .u8 tos, .int .u16 id, .bool keep, .int .u8 ttl, .int .u8 pr, .int .u32 src, .int .u32 dst, .slice a2 zo.length c2, .slice a4 zx.length c4] := hV.symm
        have hb8 : But (fun b => b = w.heap.size + 1) W5 V8 := by rw [hV9]; exact putRow_but (E := fun b => b = w.heap.size + 1) (n := w.heap.size + 1) rfl _ _ _ _ (But.refl _ _)
        have p8 := putRow_all [Value.int .u8 tos, .int .u16 id, .bool keep, .int .u8 ttl, .int .u8 pr, .int .u32 src, .int .u32 dst, .slice a2 zo.length c2, .slice a4 zx.length c4] r5 rfl
        rw [← hV9] at p8
        clear hV hV9
        have P8 := block_cell p8
        have hw8 : Below w.heap.size w V8 := (hw5).trans (hb8.below (hw5).size (fun k h e => by omega))
        exact bodyPost_ret (v := .tuple #[.agg #[.int .u8 tos, .int .u16 id, .bool keep, .int .u8 ttl, .int .u8 pr, .int .u32 src, .int .u32 dst, .slice a2 zo.length c2, .slice a4 zx.length c4], .int .i64 0]) (by simp [results, Tryd.results35, go_sem, P8]) rfl (⟨hw8, .inr ⟨HF.out, a2, c2, a4, c4, rfl, (hO6.apart r5 (by decide) hb8).mono (by omega), (hO5.apart r5 (by decide) hb8).mono (by omega)⟩⟩)
    · have t2 : ((zo.length : Int) % 4 != 0) = true := by simp; omega
      have HF : Hid (flt zo.length zx.length = 4) := by show _ = _; unfold flt; rw [if_pos (.inr c2)]
      go_enter Tryd.func35, Tryd.ntmps35
      go_wp2_with fail
      exact bodyPost_ret (v := .tuple #[.agg #[.int .u8 0, .int .u16 0, .bool false, .int .u8 0, .int .u8 0, .int .u32 0, .int .u32 0, .slice none 0 0, .slice none 0 0], .int .i64 4]) (by simp [results, Tryd.results35, go_sem]) rfl ⟨hb0, .inl ⟨by rw [HF.out]; decide, by rw [HF.out]⟩⟩
end Go.Proofs.YtdabhbadcbnkhaaDoor

/- The document's BuildIcmp. -/
namespace Go.Proofs.YtdabhbadcbnkhaaDoor
open Go.RowKit Go.Shelf
set_option maxRecDepth 100000
set_option linter.unusedVariables false
set_option linter.unusedSimpArgs false

theorem flt_none (lo : Nat) (h : flt lo 0 ≠ 0) (n : Nat) : flt lo 0 = 4 ∧ flt lo n = 4 := by
  unfold flt at *
  by_cases c : 40 < lo ∨ lo % 4 ≠ 0
  · rw [if_pos c, if_pos c]; exact ⟨rfl, rfl⟩
  · rw [if_neg c, if_neg (by omega)] at h
    exact absurd rfl h
theorem flt_some (lo : Nat) (h : flt lo 0 = 0) (n : Nat) : flt lo n = (if 65535 < 20 + lo + n then 8 else 0) := by
  unfold flt at *
  by_cases c : 40 < lo ∨ lo % 4 ≠ 0
  · rw [if_pos c] at h; exact absurd h (by decide)
  · rw [if_neg c]
theorem own_four (w : World) (a b c d : Int) : (w.alloc (.cells #[.int .u8 a, .int .u8 b, .int .u8 c, .int .u8 d] 5)).ownsRow w.heap.size 5 1 (.slice (some ⟨w.heap.size, 0, none⟩) 4 4) [a, b, c, d].length ([a, b, c, d].map (Value.int .u8)) :=
  ⟨rfl, .inr ⟨w.heap.size, 4, _, rfl, Nat.le_refl _, heap_alloc_new w _, by simp, by simp [maxLen], rfl, rfl⟩⟩

theorem but_app {base n size : Nat} {e : TypeId} {W W' : World} {v : Value} {xs : List Value} (ho : W.ownsRow base e size v n xs) (hg : W.grownBy W' v.ownBlock) : But (fun b => base ≤ b) W W' :=
  ⟨hg.os, hg.tape, hg.output, hg.size, fun i hi he => hg.block i hi (fun e => he (ho.lt i e.symm).1)⟩

end Go.Proofs.YtdabhbadcbnkhaaDoor

/- The document's BuildUdp. -/
namespace Go.Proofs.YtdabhbadcbnkhaaDoor
open Go.RowKit Go.Shelf
set_option maxRecDepth 100000
set_option linter.unusedVariables false
set_option linter.unusedSimpArgs false


/-- Bytes that grow in a row of the call's own, made behind a world. -/
def Rw (Wb : World) (v : Value) (ys : List Int) (W : World) : Prop := W.ownsRow Wb.heap.size 5 1 v ys.length (ys.map (Value.int .u8)) ∧ Below Wb.heap.size Wb W
theorem Rw.nil {Wb W : World} (h : Later Wb W) : Rw Wb (.slice none 0 0) [] W := ⟨World.ownsRow_nil _ _ _ _, h⟩
theorem Rw.later {Wb W W' : World} {v : Value} {ys : List Int} (h : Rw Wb v ys W) (l : Later W W') : Rw Wb v ys W' := ⟨row_below h.1 l (Nat.le_refl _), h.2.trans (l.mono h.2.size)⟩
theorem Rw.app {Wb W : World} {v : Value} {ys : List Int} (h : Rw Wb v ys W) (ty : TypeId) (n₀ : Nat) (sx : Value) (zs : List Int) (hI : Rd n₀ W sx zs) (hbd : ys.length + zs.length ≤ 140737488355328) :
    ∃ v' W', (Builtin.append_ #[24, 24] ty #[v, sx]).run Tryd.prog W = .ok v' W' ∧ Rw Wb v' (ys ++ zs) W' ∧ But (fun b => Wb.heap.size ≤ b) W W' := by
  obtain ⟨i0, hi, hz0, hz1, hz2⟩ := info_parts info_u8
  obtain ⟨v', W', hr, ho, hg⟩ := run_app (P := Tryd.prog) W 24 ty 5 Wb.heap.size i0 Tryd.underlying24 hi hz0 hz1 hz2 v ys h.1 n₀ sx zs hI hbd h.2.size
  exact ⟨v', W', hr, ⟨ho, below_app h.2 h.1 hg (Nat.le_refl _) h.2.size⟩, but_app h.1 hg⟩
theorem wpList_rw {ops : Array Oper} {rest : List Oper} {o : Oper} {a : Act} {Q : Exit → Act → World → Prop} (w : World) (hgd : o.guard = none) (s x : Operand)
    (ho : o.op = .call { callee := .builtin .append, args := #[s, x], argTypes := #[24, 24] }) {Wb : World} {v : Value} {ys : List Int} (hR : Rw Wb v ys w) (hs : a.eval s = v)
    (n₀ : Nat) (sx : Value) (zs : List Int) (hx : a.eval x = sx) (hI : Rd n₀ w sx zs) (hbd : ys.length + zs.length ≤ 140737488355328)
    (h : ∀ v' w', Rw Wb v' (ys ++ zs) w' → wpList Tryd.prog ops Q rest (a.put o.dst v') w') : wpList Tryd.prog ops Q (o :: rest) a w := by
  obtain ⟨i0, hi, hz0, hz1, hz2⟩ := info_parts info_u8
  exact wpList_app w hgd s x 24 ho Wb.heap.size 5 i0 Tryd.underlying24 hi hz0 hz1 hz2 v ys hs hR.1 n₀ sx zs hx hI hbd hR.2.size (fun v' w' h1 h2 => h v' w' ⟨h1, below_app hR.2 hR.1 h2 (Nat.le_refl _) hR.2.size⟩)
theorem Rw.ow {Wb W : World} {v : Value} {ys : List Int} (h : Rw Wb v ys W) : Ow Wb.heap.size W v ys := Ow.of_row h.1
theorem Rw.block {Wb W : World} {v : Value} {ys : List Int} (h : Rw Wb v ys W) {k : Nat} {o : Obj} (ho : Wb.heap[k]? = some o) : W.heap[k]? = some o := (h.2.block k (Array.getElem?_eq_some_iff.1 ho).1).trans ho
theorem later_two (W : World) (x y : Int) : Later W (W.alloc (.cells #[.int .u8 x, .int .u8 y] 5)) := (Below.refl _ _).alloc (Nat.le_refl _) _

set_option maxHeartbeats 8000000 in
theorem rbuildUdp_any (tos id ttl proto src dst sp dp : Int) (keep bare : Bool) (so sm : Value) (ad : Option Addr) (ld cd : Nat) (zo zm : List Int) (w : World) (hIo : Rd w.heap.size w so zo) (hBd : Mt.By zm) (hIm : Rd w.heap.size w sm zm)
    (h1 : zo.length ≤ 140737488355328) (h2 : 8 + zm.length ≤ 140737488355328) (hsr : 0 ≤ src ∧ src ≤ 4294967295) (hds : 0 ≤ dst ∧ dst ≤ 4294967295) (hsp : 0 ≤ sp ∧ sp ≤ 65535) (hdp : 0 ≤ dp ∧ dp ≤ 65535) :
    Calls Tryd.prog 17 #[.agg #[.int .u8 tos, .int .u16 id, .bool keep, .int .u8 ttl, .int .u8 proto, .int .u32 src, .int .u32 dst, so, .slice ad ld cd], .agg #[.int .u16 sp, .int .u16 dp, .bool bare, sm]] w fun e w' => Below w.heap.size w w' ∧ ((flt zo.length (8 + zm.length) ≠ 0 ∧ e = .returned (.tuple #[.agg #[.int .u8 0, .int .u16 0, .bool false, .int .u8 0, .int .u8 0, .int .u32 0, .int .u32 0, .slice none 0 0, .slice none 0 0], .int .i64 (flt zo.length (8 + zm.length))])) ∨
      (flt zo.length (8 + zm.length) = 0 ∧ ∃ a7 c7 a8 c8, e = .returned (.tuple #[.agg #[.int .u8 tos, .int .u16 id, .bool keep, .int .u8 ttl, .int .u8 17, .int .u32 src, .int .u32 dst, .slice a7 zo.length c7, .slice a8 (8 + zm.length) c8], .int .i64 0]) ∧ Ow w.heap.size w' (.slice a7 zo.length c7) zo ∧ Ow w.heap.size w' (.slice a8 (8 + zm.length) c8) (udp sp dp bare src dst zm))) := by
  obtain ⟨ao, co, rfl, _, _⟩ := hIo.slice
  obtain ⟨am, cm, rfl, _, _⟩ := hIm.slice
  have hb0 : Below w.heap.size w (((w.alloc (.cells #[.int .u8 tos, .int .u16 id, .bool keep, .int .u8 ttl, .int .u8 proto, .int .u32 src, .int .u32 dst, .slice ao zo.length co, .slice ad ld cd] 26)).alloc (.cells #[.int .u16 sp, .int .u16 dp, .bool bare, .slice am zm.length cm] 48)).alloc (.cells #[.int .u8 0, .int .u16 0, .bool false, .int .u8 0, .int .u8 0, .int .u32 0, .int .u32 0, .slice none 0 0, .slice none 0 0] 26)) := (((Below.refl _ _).alloc (Nat.le_refl _) _).alloc (by simp) _).alloc (by simp; omega) _
  have p0 : (((w.alloc (.cells #[.int .u8 tos, .int .u16 id, .bool keep, .int .u8 ttl, .int .u8 proto, .int .u32 src, .int .u32 dst, .slice ao zo.length co, .slice ad ld cd] 26)).alloc (.cells #[.int .u16 sp, .int .u16 dp, .bool bare, .slice am zm.length cm] 48)).alloc (.cells #[.int .u8 0, .int .u16 0, .bool false, .int .u8 0, .int .u8 0, .int .u32 0, .int .u32 0, .slice none 0 0, .slice none 0 0] 26)).heap[w.heap.size]? = some (.cells #[.int .u8 tos, .int .u16 id, .bool keep, .int .u8 ttl, .int .u8 proto, .int .u32 src, .int .u32 dst, .slice ao zo.length co, .slice ad ld cd] 26) := (Below.heap_alloc _ _ _ (by simp; omega)).trans ((Below.heap_alloc _ _ _ (by simp)).trans (heap_alloc_new w _))
  have m0 : (((w.alloc (.cells #[.int .u8 tos, .int .u16 id, .bool keep, .int .u8 ttl, .int .u8 proto, .int .u32 src, .int .u32 dst, .slice ao zo.length co, .slice ad ld cd] 26)).alloc (.cells #[.int .u16 sp, .int .u16 dp, .bool bare, .slice am zm.length cm] 48)).alloc (.cells #[.int .u8 0, .int .u16 0, .bool false, .int .u8 0, .int .u8 0, .int .u32 0, .int .u32 0, .slice none 0 0, .slice none 0 0] 26)).heap[w.heap.size + 1]? = some (.cells #[.int .u16 sp, .int .u16 dp, .bool bare, .slice am zm.length cm] 48) := by
    have := heap_alloc_new (w.alloc (.cells #[.int .u8 tos, .int .u16 id, .bool keep, .int .u8 ttl, .int .u8 proto, .int .u32 src, .int .u32 dst, .slice ao zo.length co, .slice ad ld cd] 26)) (.cells #[.int .u16 sp, .int .u16 dp, .bool bare, .slice am zm.length cm] 48)
    rw [World.size_alloc] at this
    exact (Below.heap_alloc _ _ _ (by simp)).trans this
  have r0 : (((w.alloc (.cells #[.int .u8 tos, .int .u16 id, .bool keep, .int .u8 ttl, .int .u8 proto, .int .u32 src, .int .u32 dst, .slice ao zo.length co, .slice ad ld cd] 26)).alloc (.cells #[.int .u16 sp, .int .u16 dp, .bool bare, .slice am zm.length cm] 48)).alloc (.cells #[.int .u8 0, .int .u16 0, .bool false, .int .u8 0, .int .u8 0, .int .u32 0, .int .u32 0, .slice none 0 0, .slice none 0 0] 26)).heap[w.heap.size + 1 + 1]? = some (.cells #[.int .u8 0, .int .u16 0, .bool false, .int .u8 0, .int .u8 0, .int .u32 0, .int .u32 0, .slice none 0 0, .slice none 0 0] 26 (0, 0)) := by
    have := heap_alloc_new ((w.alloc (.cells #[.int .u8 tos, .int .u16 id, .bool keep, .int .u8 ttl, .int .u8 proto, .int .u32 src, .int .u32 dst, .slice ao zo.length co, .slice ad ld cd] 26)).alloc (.cells #[.int .u16 sp, .int .u16 dp, .bool bare, .slice am zm.length cm] 48)) (.cells #[.int .u8 0, .int .u16 0, .bool false, .int .u8 0, .int .u8 0, .int .u32 0, .int .u32 0, .slice none 0 0, .slice none 0 0] 26)
    simpa using this
  have P0 := hide p0
  have M0 := hide m0
  have R0 := hide r0
  clear p0 m0 r0
  go_enter Tryd.func17, Tryd.ntmps17
  go_wp2_with fail
  generalize ((w.alloc (.cells #[.int .u8 tos, .int .u16 id, .bool keep, .int .u8 ttl, .int .u8 proto, .int .u32 src, .int .u32 dst, .slice ao zo.length co, .slice ad ld cd] 26)).alloc (.cells #[.int .u16 sp, .int .u16 dp, .bool bare, .slice am zm.length cm] 48)).alloc (.cells #[.int .u8 0, .int .u16 0, .bool false, .int .u8 0, .int .u8 0, .int .u32 0, .int .u32 0, .slice none 0 0, .slice none 0 0] 26) = w0 at *
  refine (rwith_any tos id ttl proto src dst 17 keep _ _ ad ld cd zo [] w0 ((hIo.below hb0).mono hb0.size) (rd_zero w0) h1 (by simp)).mono ?_
  rintro e w1 ⟨hb1, ⟨hf, rfl⟩ | ⟨hf, a7, c7, a8, c8, rfl, hO1, hD1⟩⟩
  · obtain ⟨f4, f4'⟩ := flt_none zo.length hf (8 + zm.length)
    rw [show ([] : List Int).length = 0 from rfl, f4]
    have HF := hide f4'
    clear f4 f4' hf
    have l2 : Later w1 (w1.alloc (.cells #[.int .u8 0, .int .u16 0, .bool false, .int .u8 0, .int .u8 0, .int .u32 0, .int .u32 0, .slice none 0 0, .slice none 0 0] 26)) := (Below.refl _ _).alloc (Nat.le_refl _) _
    have l02 := Later.trans hb1 l2
    have r2 := (l02.block (w.heap.size + 1 + 1) (Array.getElem?_eq_some_iff.1 R0.out).1).trans R0.out
    have hw2 := hb0.trans (l02.mono hb0.size)
    have RR := block_cell r2
    have FF := block_frozen r2
    go_wp2_with fail
    generalize w1.alloc (.cells #[.int .u8 0, .int .u16 0, .bool false, .int .u8 0, .int .u8 0, .int .u32 0, .int .u32 0, .slice none 0 0, .slice none 0 0] 26) = w2 at *
    generalize hV : ((((((((w2.setCell ⟨w.heap.size + 1 + 1, 0, none⟩ _).setCell ⟨w.heap.size + 1 + 1, 1, none⟩ _).setCell ⟨w.heap.size + 1 + 1, 2, none⟩ _).setCell ⟨w.heap.size + 1 + 1, 3, none⟩ _).setCell ⟨w.heap.size + 1 + 1, 4, none⟩ _).setCell ⟨w.heap.size + 1 + 1, 5, none⟩ _).setCell ⟨w.heap.size + 1 + 1, 6, none⟩ _).setCell ⟨w.heap.size + 1 + 1, 7, none⟩ _).setCell ⟨w.heap.size + 1 + 1, 8, none⟩ _ = V8
    have hV9 : V8 = putRow w2 (w.heap.size + 1 + 1) 0 [Value.int .u8 0, .int .u16 0, .bool false, .int .u8 0, .int .u8 0, .int .u32 0, .int .u32 0, .slice none 0 0, .slice none 0 0] := hV.symm
    have hb8 : But (fun b => b = w.heap.size + 1 + 1) w2 V8 := by rw [hV9]; exact putRow_but (E := fun b => b = w.heap.size + 1 + 1) (n := w.heap.size + 1 + 1) rfl _ _ _ _ (But.refl _ _)
    have p8 := putRow_all [Value.int .u8 0, .int .u16 0, .bool false, .int .u8 0, .int .u8 0, .int .u32 0, .int .u32 0, .slice none 0 0, .slice none 0 0] r2 rfl
    rw [← hV9] at p8
    clear hV hV9
    have P8 := block_cell p8
    have hw8 : Below w.heap.size w V8 := (hw2).trans (hb8.below (hw2).size (fun k h e => by omega))
    exact bodyPost_ret (v := .tuple #[.agg #[.int .u8 0, .int .u16 0, .bool false, .int .u8 0, .int .u8 0, .int .u32 0, .int .u32 0, .slice none 0 0, .slice none 0 0], .int .i64 4]) (by simp [results, Tryd.results17, go_sem, P8]) rfl (⟨hw8, .inl ⟨by rw [HF.out]; decide, by rw [HF.out]⟩⟩)
  · have f0 := flt_some zo.length hf (8 + zm.length)
    clear hf
    have l2 : Later w1 (w1.alloc (.cells #[.int .u8 tos, .int .u16 id, .bool keep, .int .u8 ttl, .int .u8 17, .int .u32 src, .int .u32 dst, .slice a7 zo.length c7, .slice a8 ([] : List Int).length c8] 26)) := (Below.refl _ _).alloc (Nat.le_refl _) _
    have l02 := Later.trans hb1 l2
    have p2 := (l02.block w.heap.size (Array.getElem?_eq_some_iff.1 P0.out).1).trans P0.out
    have m2 := (l02.block (w.heap.size + 1) (Array.getElem?_eq_some_iff.1 M0.out).1).trans M0.out
    have r2 := (l02.block (w.heap.size + 1 + 1) (Array.getElem?_eq_some_iff.1 R0.out).1).trans R0.out
    have hw2 := hb0.trans (l02.mono hb0.size)
    have PP := block_cell p2
    have MM := block_cell m2
    rw [show ([] : List Int).length = 0 from rfl] at *
    by_cases c3 : 65535 < 20 + zo.length + (8 + zm.length)
    · have t3 : (65535 : Int) < 28 + zo.length + zm.length := by omega
      rw [if_pos c3] at f0
      have HF := hide f0
      clear f0 c3
      have RR := block_cell r2
      have FF := block_frozen r2
      go_wp2_with fail
      generalize w1.alloc (.cells #[.int .u8 tos, .int .u16 id, .bool keep, .int .u8 ttl, .int .u8 17, .int .u32 src, .int .u32 dst, .slice a7 zo.length c7, .slice a8 0 c8] 26) = w2 at *
      generalize hV : ((((((((w2.setCell ⟨w.heap.size + 1 + 1, 0, none⟩ _).setCell ⟨w.heap.size + 1 + 1, 1, none⟩ _).setCell ⟨w.heap.size + 1 + 1, 2, none⟩ _).setCell ⟨w.heap.size + 1 + 1, 3, none⟩ _).setCell ⟨w.heap.size + 1 + 1, 4, none⟩ _).setCell ⟨w.heap.size + 1 + 1, 5, none⟩ _).setCell ⟨w.heap.size + 1 + 1, 6, none⟩ _).setCell ⟨w.heap.size + 1 + 1, 7, none⟩ _).setCell ⟨w.heap.size + 1 + 1, 8, none⟩ _ = V8
      have hV9 : V8 = putRow w2 (w.heap.size + 1 + 1) 0 [Value.int .u8 0, .int .u16 0, .bool false, .int .u8 0, .int .u8 0, .int .u32 0, .int .u32 0, .slice none 0 0, .slice none 0 0] := hV.symm
      have hb8 : But (fun b => b = w.heap.size + 1 + 1) w2 V8 := by rw [hV9]; exact putRow_but (E := fun b => b = w.heap.size + 1 + 1) (n := w.heap.size + 1 + 1) rfl _ _ _ _ (But.refl _ _)
      have p8 := putRow_all [Value.int .u8 0, .int .u16 0, .bool false, .int .u8 0, .int .u8 0, .int .u32 0, .int .u32 0, .slice none 0 0, .slice none 0 0] r2 rfl
      rw [← hV9] at p8
      clear hV hV9
      have P8 := block_cell p8
      have hw8 : Below w.heap.size w V8 := (hw2).trans (hb8.below (hw2).size (fun k h e => by omega))
      exact bodyPost_ret (v := .tuple #[.agg #[.int .u8 0, .int .u16 0, .bool false, .int .u8 0, .int .u8 0, .int .u32 0, .int .u32 0, .slice none 0 0, .slice none 0 0], .int .i64 8]) (by simp [results, Tryd.results17, go_sem, P8]) rfl (⟨hw8, .inl ⟨by rw [HF.out]; decide, by rw [HF.out]⟩⟩)
    · have t3 : ¬ (65535 : Int) < 28 + zo.length + zm.length := by omega
      rw [if_neg c3] at f0
      have HF := hide f0
      clear f0
      go_upto_region 7 with fail
      generalize w1.alloc (.cells #[.int .u8 tos, .int .u16 id, .bool keep, .int .u8 ttl, .int .u8 17, .int .u32 src, .int .u32 dst, .slice a7 zo.length c7, .slice a8 0 c8] 26) = w2 at *
      clear PP MM l02 hb0
      have hsr2 := (Array.getElem?_eq_some_iff.1 r2).1
      go_cut [8] (fun v wx => Rw w2 v ([sp, dp].flatMap b2) wx)
      case first =>
        refine anyT_begin (R := But (fun b => w2.heap.size ≤ b)) 10 rfl (by kernel_rfl) ?_
        have R0 : Rw w2 (.slice none 0 0) [] w2.drew := Rw.nil (Later.drew w2)
        have md := R0.block m2
        generalize w2.drew = Wd at *
        have ha : ∀ v1, But (fun b => w2.heap.size ≤ b) Wd v1 → ∀ i, v1.cell? ⟨w.heap.size + 1, i, none⟩ = #[Value.int .u16 sp, .int .u16 dp, .bool bare, .slice am zm.length cm][i]? := fun v1 h => block_cell ((h.block (w.heap.size + 1) (Array.getElem?_eq_some_iff.1 md).1 (by omega)).trans md)
        refine anyT_val (But.pre _) 0 rfl (by kernel_rfl) (by kernel_rfl) (by kernel_rfl) (fun _ _ _ _ h => h) rfl ?_; apply Exists.intro; refine ⟨fun v1 hv1 => ?_, ?_⟩; (· (go_simp; rfl)); simp only [Act.put, List.setIfInBounds_toArray, List.set_cons_zero, List.set_cons_succ]
        refine anyT_val (But.pre _) 1 rfl (by kernel_rfl) (by kernel_rfl) (by kernel_rfl) (fun _ _ _ _ h => h) rfl ?_; apply Exists.intro; refine ⟨fun v1 hv1 => ?_, ?_⟩; (· (go_simp; rfl)); simp only [Act.put, List.setIfInBounds_toArray, List.set_cons_zero, List.set_cons_succ]
        refine anyT_val (But.pre _) 2 rfl (by kernel_rfl) (by kernel_rfl) (by kernel_rfl) (fun _ _ _ _ h => h) rfl ?_; apply Exists.intro; refine ⟨fun v1 hv1 => ?_, ?_⟩; (· (go_simp; rfl)); simp only [Act.put, List.setIfInBounds_toArray, List.set_cons_zero, List.set_cons_succ]
        refine anyT_val (But.pre _) 5 rfl (by kernel_rfl) (by kernel_rfl) (by kernel_rfl) (fun _ _ _ _ h => h) rfl ?_; apply Exists.intro; refine ⟨fun v1 hv1 => ?_, ?_⟩; (· (go_simp; rfl)); simp only [Act.put, List.setIfInBounds_toArray, List.set_cons_zero, List.set_cons_succ]
        refine anyT_val (But.pre _) 6 rfl (by kernel_rfl) (by kernel_rfl) (by kernel_rfl) (fun _ _ _ _ h => h) rfl ?_; apply Exists.intro; refine ⟨fun v1 hv1 => ?_, ?_⟩; (· (go_simp; rfl)); simp only [Act.put, List.setIfInBounds_toArray, List.set_cons_zero, List.set_cons_succ]
        refine anyT_one 3 rfl (by kernel_rfl) rfl ?_
        refine wp_enter 36 #[.int .u16 sp] (by go_simp) ?_
        refine (two_any sp hsp Wd).mono ?_
        rintro e w4 ⟨rfl, rfl⟩
        have R4 := R0.later (later_two Wd (sp / 256) (sp % 256))
        have X4 := Rd.new2 (sp / 256) (sp % 256) 5 Wd
        refine ⟨But.of (later_two Wd _ _), ?_⟩
        simp only [Act.put, List.setIfInBounds_toArray, List.set_cons_zero, List.set_cons_succ]
        generalize Wd.alloc (.cells #[.int .u8 (sp / 256), .int .u8 (sp % 256)] 5) = W4 at *
        refine anyT_one 4 rfl (by kernel_rfl) rfl ?_
        obtain ⟨v5, W5, hrun5, R5, bt5⟩ := R4.app 24 _ _ _ X4 (by simp)
        refine wp_app (.tmp 29) (.tmp 32) 24 rfl _ _ rfl rfl _ W5 hrun5 ⟨bt5, ?_⟩
        simp only [Act.put, List.setIfInBounds_toArray, List.set_cons_zero, List.set_cons_succ]
        refine anyT_one 7 rfl (by kernel_rfl) rfl ?_
        refine wp_enter 36 #[.int .u16 dp] (by go_simp) ?_
        refine (two_any dp hdp W5).mono ?_
        rintro e w4 ⟨rfl, rfl⟩
        have R6 := R5.later (later_two W5 (dp / 256) (dp % 256))
        have X6 := Rd.new2 (dp / 256) (dp % 256) 5 W5
        refine ⟨But.of (later_two W5 _ _), ?_⟩
        simp only [Act.put, List.setIfInBounds_toArray, List.set_cons_zero, List.set_cons_succ]
        generalize W5.alloc (.cells #[.int .u8 (dp / 256), .int .u8 (dp % 256)] 5) = W6 at *
        refine anyT_one 8 rfl (by kernel_rfl) rfl ?_
        obtain ⟨v7, W7, hrun7, R7, bt7⟩ := R6.app 24 _ _ _ X6 (by simp)
        refine wp_app (.tmp 33) (.tmp 36) 24 rfl _ _ rfl rfl _ W7 hrun7 ⟨bt7, ?_⟩
        simp only [Act.put, List.setIfInBounds_toArray, List.set_cons_zero, List.set_cons_succ]
        refine anyT_one 9 rfl (by kernel_rfl) rfl ?_
        unfold Oper.wp
        go_simp
        refine ⟨But.refl _ _, ?_⟩
        refine anyT_done (by kernel_rfl) ?_
        clear ha hrun5 hrun7
        go_wp2_with fail
        go_meet
        case rel => exact R7
      case rest =>
        have R3 : Rw w2 _ ([sp, dp].flatMap b2) wc := hcut
        clear hcut
        have mc := block_cell (R3.block m2)
        have hl8 : (8 + (zm.length : Int)) % 65536 = 8 + zm.length := by omega
        have hw8 : 8 + (zm.length : Int) ≤ 65535 := by omega
        go_wp2_with fail
        refine (two_any (8 + zm.length) (by omega) wc).mono ?_
        rintro e w4 ⟨rfl, rfl⟩
        have R4 := R3.later (later_two wc ((8 + zm.length) / 256) ((8 + zm.length) % 256))
        have X4 := Rd.new2 ((8 + (zm.length : Int)) / 256) ((8 + zm.length) % 256) 5 wc
        clear mc
        generalize wc.alloc (.cells #[.int .u8 ((8 + (zm.length : Int)) / 256), .int .u8 ((8 + zm.length) % 256)] 5) = W4 at *
        generalize some (⟨wc.heap.size, 0, none⟩ : Addr) = a4 at *
        go_wp2_with (at_builtin; go_loud (refine wpList_rw _ rfl (.tmp 38) (.tmp 44) rfl R4 rfl _ _ _ rfl X4 (by simp [b2]) ?_; intro v5 W5 R5; refine Hid.out ?_))
        have R6 := R5.later (later_two W5 0 0)
        have X6 := Rd.new2 0 0 5 W5
        show wpList _ _ _ _ _ _
        go_wp2_with (at_builtin; go_loud (refine wpList_rw _ rfl (.tmp 45) (.tmp 46) rfl R6 rfl _ _ _ rfl X6 (by simp [b2]) ?_; intro v7 W7 R7; refine Hid.out ?_))
        have m7 := block_cell (R7.block m2)
        have hRm : Rd w.heap.size W7 (.slice am zm.length cm) zm := hIm.below (hw2.trans (R7.2.mono hw2.size))
        show wpList _ _ _ _ _ _
        go_wp2_with (at_builtin; go_loud (refine wpList_rw _ rfl (.tmp 48) (.tmp 50) rfl R7 rfl _ _ _ rfl hRm (by simp [b2]; omega) ?_; intro v8 W8 R8; refine Hid.out ?_))
        have hlist : (([sp, dp].flatMap b2 ++ [(8 + (zm.length : Int)) / 256, (8 + zm.length) % 256]) ++ [0, 0]) ++ zm = udp0 sp dp zm := by unfold udp0; rw [hl8]; simp [b2]
        rw [hlist] at R8
        have m8 := block_cell (R8.block m2)
        have p8 := block_cell (R8.block p2)
        have r8 := R8.block r2
        have hO8 := R8.ow
        have hw8' := hw2.trans (R8.2.mono hw2.size)
        clear m7 R3 R4 R5 R6 R7 X4 X6 hRm hlist
        show wpList _ _ _ _ _ _
        have pb := R8.block p2
        obtain ⟨a8', c8', rfl, _, _⟩ := hO8.slice
        have hBu : Mt.By (udp0 sp dp zm) := By_udp0 sp dp zm hsp hdp hBd
        have hlu := udp0_length sp dp zm
        have HLC := hide (udp_length sp dp bare src dst zm)
        have HLU := hide hlu
        clear hlu
        have hz : 8 + zm.length ≤ 65535 := by omega
        clear hl8 t3 hw8 R8
        cases bare
        · have HUD : Hid (putAt2 (udp0 sp dp zm) 6 (usm src dst 17 (udp0 sp dp zm)) = udp sp dp false src dst zm) := by show _ = _; unfold putAt2 udp; rw [if_pos (by rw [HLU.out]; omega)]; rfl
          have hub := usm_bd src dst 17 (udp0 sp dp zm)
          generalize udp0 sp dp zm = bb at *
          go_wp2_with fail
          refine (rsum3_any tos id ttl proto src dst 17 keep _ _ _ bb W8 hBu hO8.rd (by rw [HLU.out]; omega) (by omega) hsr hds).mono ?_
          rintro e W9 ⟨rfl, hb9⟩
          have HU : Hid (usm src dst 17 bb = if Mt.cks (psd src dst 17 bb.length ++ bb) = 0 then 65535 else Mt.cks (psd src dst 17 bb.length ++ bb)) := rfl
          generalize Mt.cks (psd src dst 17 bb.length ++ bb) = c at *
          by_cases hc : c = 0
          · subst hc
            rw [show usm src dst 17 bb = 65535 from HU.out] at HUD
            clear HU hub
            go_wp2_with fail
            refine (rput16_any _ bb 6 65535 (by omega) (by rw [HLU.out]; omega) W9 (hO8.later hb9).rd (by omega)).mono ?_
            rintro e W10 ⟨rv, rfl, hO10, hb10⟩
            rw [HUD.out] at hO10
            obtain ⟨a10, c10, rfl, _, _⟩ := hO10.slice
            have l10 : Later W8 W10 := Later.trans hb9 hb10
            have p10 := block_cell (later_keep l10 pb)
            go_wp2_with fail
            have pn := block_cell (later_keep l10 pb)
            have rn := later_keep l10 r8
            have hwn := hw8'.trans ((l10).mono hw8'.size)
            refine (rwith_any tos id ttl proto src dst 17 keep _ _ ad ld cd zo (udp sp dp false src dst zm) W10 ((hIo.below hwn).mono hwn.size) hO10.rd h1 (by rw [HLC.out]; omega)).mono ?_
            rw [HLC.out, HF.out]
            rintro e WX ⟨hbX, ⟨hx, _⟩ | ⟨_, a9, c9, ad9, cd9, rfl, hO9, hD9⟩⟩
            case inl => exact absurd rfl hx
            have rX := later_keep hbX rn
            have hwX := hwn.trans (hbX.mono hwn.size)
            have kX := block_cell rX
            have fX := block_frozen rX
            clear pn m8 p8
            go_wp2_with fail
            generalize hV : ((((((((WX.setCell ⟨w.heap.size + 1 + 1, 0, none⟩ _).setCell ⟨w.heap.size + 1 + 1, 1, none⟩ _).setCell ⟨w.heap.size + 1 + 1, 2, none⟩ _).setCell ⟨w.heap.size + 1 + 1, 3, none⟩ _).setCell ⟨w.heap.size + 1 + 1, 4, none⟩ _).setCell ⟨w.heap.size + 1 + 1, 5, none⟩ _).setCell ⟨w.heap.size + 1 + 1, 6, none⟩ _).setCell ⟨w.heap.size + 1 + 1, 7, none⟩ _).setCell ⟨w.heap.size + 1 + 1, 8, none⟩ _ = V
            have hV8 : V = putRow WX (w.heap.size + 1 + 1) 0 [.int .u8 tos, .int .u16 id, .bool keep, .int .u8 ttl, .int .u8 17, .int .u32 src, .int .u32 dst, .slice a9 zo.length c9, .slice ad9 (8 + zm.length) cd9] := hV.symm
            have hbV : But (fun b => b = w.heap.size + 1 + 1) WX V := by rw [hV8]; exact putRow_rb _ _
            have pV := putRow_all [Value.int .u8 tos, .int .u16 id, .bool keep, .int .u8 ttl, .int .u8 17, .int .u32 src, .int .u32 dst, .slice a9 zo.length c9, .slice ad9 (8 + zm.length) cd9] rX rfl
            rw [← hV8] at pV
            clear hV hV8 kX fX
            have PV := block_cell pV
            have hwV : Below w.heap.size w V := hwX.trans (hbV.below hwX.size (fun k hk e => by omega))
            exact bodyPost_ret (v := .tuple #[.agg #[.int .u8 tos, .int .u16 id, .bool keep, .int .u8 ttl, .int .u8 17, .int .u32 src, .int .u32 dst, .slice a9 zo.length c9, .slice ad9 (8 + zm.length) cd9], .int .i64 0]) (by simp [results, Tryd.results17, go_sem, PV]) rfl ⟨hwV, .inr ⟨HF.out, a9, c9, ad9, cd9, rfl, (hO9.apart rX (by decide) hbV).mono hwn.size, (hD9.apart rX (by decide) hbV).mono hwn.size⟩⟩
          · have hu : usm src dst 17 bb = c := HU.out.trans (if_neg hc)
            rw [hu] at HUD hub
            have hc' : (c == 0) = false := by simp [hc]
            clear HU hu hc
            go_wp2_with fail
            refine (rput16_any _ bb 6 c (by omega) (by rw [HLU.out]; omega) W9 (hO8.later hb9).rd (by omega)).mono ?_
            rintro e W10 ⟨rv, rfl, hO10, hb10⟩
            rw [HUD.out] at hO10
            obtain ⟨a10, c10, rfl, _, _⟩ := hO10.slice
            have l10 : Later W8 W10 := Later.trans hb9 hb10
            have p10 := block_cell (later_keep l10 pb)
            go_wp2_with fail
            have pn := block_cell (later_keep l10 pb)
            have rn := later_keep l10 r8
            have hwn := hw8'.trans ((l10).mono hw8'.size)
            refine (rwith_any tos id ttl proto src dst 17 keep _ _ ad ld cd zo (udp sp dp false src dst zm) W10 ((hIo.below hwn).mono hwn.size) hO10.rd h1 (by rw [HLC.out]; omega)).mono ?_
            rw [HLC.out, HF.out]
            rintro e WX ⟨hbX, ⟨hx, _⟩ | ⟨_, a9, c9, ad9, cd9, rfl, hO9, hD9⟩⟩
            case inl => exact absurd rfl hx
            have rX := later_keep hbX rn
            have hwX := hwn.trans (hbX.mono hwn.size)
            have kX := block_cell rX
            have fX := block_frozen rX
            clear pn m8 p8
            go_wp2_with fail
            generalize hV : ((((((((WX.setCell ⟨w.heap.size + 1 + 1, 0, none⟩ _).setCell ⟨w.heap.size + 1 + 1, 1, none⟩ _).setCell ⟨w.heap.size + 1 + 1, 2, none⟩ _).setCell ⟨w.heap.size + 1 + 1, 3, none⟩ _).setCell ⟨w.heap.size + 1 + 1, 4, none⟩ _).setCell ⟨w.heap.size + 1 + 1, 5, none⟩ _).setCell ⟨w.heap.size + 1 + 1, 6, none⟩ _).setCell ⟨w.heap.size + 1 + 1, 7, none⟩ _).setCell ⟨w.heap.size + 1 + 1, 8, none⟩ _ = V
            have hV8 : V = putRow WX (w.heap.size + 1 + 1) 0 [.int .u8 tos, .int .u16 id, .bool keep, .int .u8 ttl, .int .u8 17, .int .u32 src, .int .u32 dst, .slice a9 zo.length c9, .slice ad9 (8 + zm.length) cd9] := hV.symm
            have hbV : But (fun b => b = w.heap.size + 1 + 1) WX V := by rw [hV8]; exact putRow_rb _ _
            have pV := putRow_all [Value.int .u8 tos, .int .u16 id, .bool keep, .int .u8 ttl, .int .u8 17, .int .u32 src, .int .u32 dst, .slice a9 zo.length c9, .slice ad9 (8 + zm.length) cd9] rX rfl
            rw [← hV8] at pV
            clear hV hV8 kX fX
            have PV := block_cell pV
            have hwV : Below w.heap.size w V := hwX.trans (hbV.below hwX.size (fun k hk e => by omega))
            exact bodyPost_ret (v := .tuple #[.agg #[.int .u8 tos, .int .u16 id, .bool keep, .int .u8 ttl, .int .u8 17, .int .u32 src, .int .u32 dst, .slice a9 zo.length c9, .slice ad9 (8 + zm.length) cd9], .int .i64 0]) (by simp [results, Tryd.results17, go_sem, PV]) rfl ⟨hwV, .inr ⟨HF.out, a9, c9, ad9, cd9, rfl, (hO9.apart rX (by decide) hbV).mono hwn.size, (hD9.apart rX (by decide) hbV).mono hwn.size⟩⟩
        · rw [show udp0 sp dp zm = udp sp dp true src dst zm from rfl] at *
          go_wp2_with fail
          have pn := block_cell (later_keep (Later.refl W8) pb)
          have rn := later_keep (Later.refl W8) r8
          have hwn := hw8'.trans (((Later.refl W8)).mono hw8'.size)
          refine (rwith_any tos id ttl proto src dst 17 keep _ _ ad ld cd zo (udp sp dp true src dst zm) W8 ((hIo.below hwn).mono hwn.size) hO8.rd h1 (by rw [HLC.out]; omega)).mono ?_
          rw [HLC.out, HF.out]
          rintro e WX ⟨hbX, ⟨hx, _⟩ | ⟨_, a9, c9, ad9, cd9, rfl, hO9, hD9⟩⟩
          case inl => exact absurd rfl hx
          have rX := later_keep hbX rn
          have hwX := hwn.trans (hbX.mono hwn.size)
          have kX := block_cell rX
          have fX := block_frozen rX
          clear pn m8 p8
          go_wp2_with fail
          generalize hV : ((((((((WX.setCell ⟨w.heap.size + 1 + 1, 0, none⟩ _).setCell ⟨w.heap.size + 1 + 1, 1, none⟩ _).setCell ⟨w.heap.size + 1 + 1, 2, none⟩ _).setCell ⟨w.heap.size + 1 + 1, 3, none⟩ _).setCell ⟨w.heap.size + 1 + 1, 4, none⟩ _).setCell ⟨w.heap.size + 1 + 1, 5, none⟩ _).setCell ⟨w.heap.size + 1 + 1, 6, none⟩ _).setCell ⟨w.heap.size + 1 + 1, 7, none⟩ _).setCell ⟨w.heap.size + 1 + 1, 8, none⟩ _ = V
          have hV8 : V = putRow WX (w.heap.size + 1 + 1) 0 [.int .u8 tos, .int .u16 id, .bool keep, .int .u8 ttl, .int .u8 17, .int .u32 src, .int .u32 dst, .slice a9 zo.length c9, .slice ad9 (8 + zm.length) cd9] := hV.symm
          have hbV : But (fun b => b = w.heap.size + 1 + 1) WX V := by rw [hV8]; exact putRow_rb _ _
          have pV := putRow_all [Value.int .u8 tos, .int .u16 id, .bool keep, .int .u8 ttl, .int .u8 17, .int .u32 src, .int .u32 dst, .slice a9 zo.length c9, .slice ad9 (8 + zm.length) cd9] rX rfl
          rw [← hV8] at pV
          clear hV hV8 kX fX
          have PV := block_cell pV
          have hwV : Below w.heap.size w V := hwX.trans (hbV.below hwX.size (fun k hk e => by omega))
          exact bodyPost_ret (v := .tuple #[.agg #[.int .u8 tos, .int .u16 id, .bool keep, .int .u8 ttl, .int .u8 17, .int .u32 src, .int .u32 dst, .slice a9 zo.length c9, .slice ad9 (8 + zm.length) cd9], .int .i64 0]) (by simp [results, Tryd.results17, go_sem, PV]) rfl ⟨hwV, .inr ⟨HF.out, a9, c9, ad9, cd9, rfl, (hO9.apart rX (by decide) hbV).mono hwn.size, (hD9.apart rX (by decide) hbV).mono hwn.size⟩⟩
end Go.Proofs.YtdabhbadcbnkhaaDoor

/- The document's answers for packets: Right, Same, header, Build. -/
namespace Go.Proofs.YtdabhbadcbnkhaaDoor
open Go.RowKit Go.Shelf
set_option maxRecDepth 100000
set_option linter.unusedVariables false

set_option maxHeartbeats 1000000 in
theorem rright_any (tos id ttl proto src dst : Int) (keep : Bool) (ao ad : Option Addr) (lo co ld cd : Nat) (w : World) (h1 : lo ≤ 140737488355328) (h2 : ld ≤ 140737488355328) :
    Calls Tryd.prog 11 #[.agg #[.int .u8 tos, .int .u16 id, .bool keep, .int .u8 ttl, .int .u8 proto, .int .u32 src, .int .u32 dst, .slice ao lo co, .slice ad ld cd]] w fun e w' => e = .returned (.bool (flt lo ld == 0)) ∧ Below w.heap.size w w' := by
  have hbox : Below w.heap.size w (w.alloc (.cells #[.int .u8 tos, .int .u16 id, .bool keep, .int .u8 ttl, .int .u8 proto, .int .u32 src, .int .u32 dst, .slice ao lo co, .slice ad ld cd] 26)) := (Below.refl _ _).alloc (Nat.le_refl _) _
  by_cases c1 : lo ≤ 40
  · have t1 : (lo : Int) ≤ 40 := by omega
    by_cases c2 : lo % 4 = 0
    · have t2 : ((lo : Int) % 4 == 0) = true := by simp; omega
      by_cases c3 : 20 + lo + ld ≤ 65535
      · have t3 : (20 : Int) + lo + ld ≤ 65535 := by omega
        have HF : Hid (flt lo ld = 0) := by show _ = _; unfold flt; rw [if_neg (by omega), if_neg (by omega)]
        clear c1 c2 c3
        go_enter Tryd.func11, Tryd.ntmps11
        go_wp2
        go_ret
        exact ⟨by rw [HF.out]; rfl, hbox⟩
      · have t3 : ¬ (20 : Int) + lo + ld ≤ 65535 := by omega
        have HF : Hid (flt lo ld = 8) := by show _ = _; unfold flt; rw [if_neg (by omega), if_pos (by omega)]
        clear c1 c2 c3
        go_enter Tryd.func11, Tryd.ntmps11
        go_wp2
        go_ret
        exact ⟨by rw [HF.out]; rfl, hbox⟩
    · have t2 : ((lo : Int) % 4 == 0) = false := by simp; omega
      have HF : Hid (flt lo ld = 4) := by show _ = _; unfold flt; rw [if_pos (by omega)]
      clear c1 c2
      go_enter Tryd.func11, Tryd.ntmps11
      go_wp2
      go_ret
      exact ⟨by rw [HF.out]; rfl, hbox⟩
  · have t1 : ¬ (lo : Int) ≤ 40 := by omega
    have HF : Hid (flt lo ld = 4) := by show _ = _; unfold flt; rw [if_pos (by omega)]
    clear c1
    go_enter Tryd.func11, Tryd.ntmps11
    go_wp2
    go_ret
    exact ⟨by rw [HF.out]; rfl, hbox⟩

set_option maxHeartbeats 4000000 in
theorem rsame_any (tos1 id1 ttl1 proto1 src1 dst1 tos2 id2 ttl2 proto2 src2 dst2 : Int) (keep1 keep2 : Bool) (so1 sd1 so2 sd2 : Value) (zo1 zd1 zo2 zd2 : List Int) (w : World)
    (hO1 : Mt.By zo1) (hD1 : Mt.By zd1) (hO2 : Mt.By zo2) (hD2 : Mt.By zd2) (hIo1 : Rd w.heap.size w so1 zo1) (hId1 : Rd w.heap.size w sd1 zd1) (hIo2 : Rd w.heap.size w so2 zo2) (hId2 : Rd w.heap.size w sd2 zd2) :
    Calls Tryd.prog 8 #[.agg #[.int .u8 tos1, .int .u16 id1, .bool keep1, .int .u8 ttl1, .int .u8 proto1, .int .u32 src1, .int .u32 dst1, so1, sd1], .agg #[.int .u8 tos2, .int .u16 id2, .bool keep2, .int .u8 ttl2, .int .u8 proto2, .int .u32 src2, .int .u32 dst2, so2, sd2]] w fun e w' => e = .returned (.bool (smP tos1 id1 ttl1 proto1 src1 dst1 tos2 id2 ttl2 proto2 src2 dst2 keep1 keep2 zo1 zd1 zo2 zd2)) ∧ Below w.heap.size w w' := by
  have hbox := ((Below.refl w.heap.size w).alloc (Nat.le_refl _) (.cells #[.int .u8 tos1, .int .u16 id1, .bool keep1, .int .u8 ttl1, .int .u8 proto1, .int .u32 src1, .int .u32 dst1, so1, sd1] 26)).alloc (by simp) (.cells #[.int .u8 tos2, .int .u16 id2, .bool keep2, .int .u8 ttl2, .int .u8 proto2, .int .u32 src2, .int .u32 dst2, so2, sd2] 26)
  have HA := hide (hIo1.below hbox)
  have HB := hide (hId1.below hbox)
  have HC := hide (hIo2.below hbox)
  have HE := hide (hId2.below hbox)
  obtain ⟨ao1, co1, rfl, _, _⟩ := hIo1.slice
  obtain ⟨ad1, cd1, rfl, _, _⟩ := hId1.slice
  obtain ⟨ao2, co2, rfl, _, _⟩ := hIo2.slice
  obtain ⟨ad2, cd2, rfl, _, _⟩ := hId2.slice
  have HS : Hid (smP tos1 id1 ttl1 proto1 src1 dst1 tos2 id2 ttl2 proto2 src2 dst2 keep1 keep2 zo1 zd1 zo2 zd2 = (tos1 == tos2 && (id1 == id2 && (keep1 == keep2 && (ttl1 == ttl2 && (proto1 == proto2 && (src1 == src2 && (dst1 == dst2 && (decide (zo1 = zo2) && decide (zd1 = zd2)))))))))) := rfl
  generalize smP tos1 id1 ttl1 proto1 src1 dst1 tos2 id2 ttl2 proto2 src2 dst2 keep1 keep2 zo1 zd1 zo2 zd2 = r at *
  clear hIo1 hId1 hIo2 hId2
  cases h0 : (tos1 == tos2)
  · rw [h0] at HS
    go_enter Tryd.func8, Tryd.ntmps8
    go_wp2
    go_ret
    exact ⟨by rw [HS.out]; rfl, hbox⟩
  · rw [h0] at HS
    cases h1 : (id1 == id2)
    · rw [h1] at HS
      go_enter Tryd.func8, Tryd.ntmps8
      go_wp2
      go_ret
      exact ⟨by rw [HS.out]; rfl, hbox⟩
    · rw [h1] at HS
      cases h2 : (keep1 == keep2)
      · rw [h2] at HS
        go_enter Tryd.func8, Tryd.ntmps8
        go_wp2
        go_ret
        exact ⟨by rw [HS.out]; rfl, hbox⟩
      · rw [h2] at HS
        cases h3 : (ttl1 == ttl2)
        · rw [h3] at HS
          go_enter Tryd.func8, Tryd.ntmps8
          go_wp2
          go_ret
          exact ⟨by rw [HS.out]; rfl, hbox⟩
        · rw [h3] at HS
          cases h4 : (proto1 == proto2)
          · rw [h4] at HS
            go_enter Tryd.func8, Tryd.ntmps8
            go_wp2
            go_ret
            exact ⟨by rw [HS.out]; rfl, hbox⟩
          · rw [h4] at HS
            cases h5 : (src1 == src2)
            · rw [h5] at HS
              go_enter Tryd.func8, Tryd.ntmps8
              go_wp2
              go_ret
              exact ⟨by rw [HS.out]; rfl, hbox⟩
            · rw [h5] at HS
              cases h6 : (dst1 == dst2)
              · rw [h6] at HS
                go_enter Tryd.func8, Tryd.ntmps8
                go_wp2
                go_ret
                exact ⟨by rw [HS.out]; rfl, hbox⟩
              · rw [h6] at HS
                simp only [Bool.true_and] at HS
                have ca := conv_rd 24 9 5 Tryd.underlying24 Tryd.underlying5 Tryd.underlying9 HA.out
                have cb := conv_rd 24 9 5 Tryd.underlying24 Tryd.underlying5 Tryd.underlying9 HB.out
                have cc := conv_rd 24 9 5 Tryd.underlying24 Tryd.underlying5 Tryd.underlying9 HC.out
                have ce := conv_rd 24 9 5 Tryd.underlying24 Tryd.underlying5 Tryd.underlying9 HE.out
                have e1 := str_eq hO1 hO2
                have e2 := str_eq hD1 hD2
                generalize strOfNums zo1 = s1 at *
                generalize strOfNums zo2 = s2 at *
                generalize strOfNums zd1 = s3 at *
                generalize strOfNums zd2 = s4 at *
                clear HA HB HC HE hO1 hO2 hD1 hD2
                cases h7 : decide (zo1 = zo2)
                · rw [h7] at HS e1
                  go_enter Tryd.func8, Tryd.ntmps8
                  go_wp2
                  go_ret
                  exact ⟨by rw [HS.out]; rfl, hbox⟩
                · rw [h7] at HS e1
                  go_enter Tryd.func8, Tryd.ntmps8
                  go_wp2
                  go_ret
                  exact ⟨by rw [HS.out]; rfl, hbox⟩
end Go.Proofs.YtdabhbadcbnkhaaDoor

/- A guarded operation that is not wanted is passed over. -/
namespace Go.Proofs.YtdabhbadcbnkhaaDoor
open Go.RowKit Go.Shelf
set_option maxRecDepth 100000
set_option linter.unusedVariables false
set_option linter.unusedSimpArgs false

section
variable {P : Program} {l : List Oper} {Q : Exit → Act → World → Prop} {fuel : Nat} {listed : Array Bool} {a : Act} {w : World} {R : World → World → Prop}
/-- Number i, whose guard does not hold, is passed over first. -/
theorem anyR_skipG (hp : Pre R) (i : Nat) {oi : Oper} (hi : nthOp l i = some oi)
    (hs : Region.noSelect l.toArray = true) (hf : Region.free .any l.toArray listed i = true) (hr : (Region.ready .any l.toArray listed).contains i = true)
    (hQ : ∀ v c a w, Q (.panic c) (a.put oi.dst v) w → Q (.panic c) a w) (hg : Region.wanted oi (yielded l.toArray a.tmps) = false)
    (h : wpAnyR P .any l.toArray Q R fuel (listed.setIfInBounds i true) (a.put oi.dst undef) w) : wpAnyR P .any l.toArray Q R (fuel + 1) listed a w := by
  have hi' : l.toArray[i]? = some oi := by rw [← hi, nthOp_eq]; simp
  exact wpAnyR_first hp.1 hp.2 hi' (Region.noSelect_spec hs) (hQ undef) fuel listed a w (Region.free_spec hi' hf) (by simpa using hr) (.inr ⟨hg, rfl⟩) h
end

end Go.Proofs.YtdabhbadcbnkhaaDoor

/- Layer 10: live, told; the walk of MangleTuple. -/
namespace Go.Proofs.YtdabhbadcbnkhaaDoor
open Go.RowKit Go.Shelf
set_option maxRecDepth 100000
set_option linter.unusedVariables false
set_option linter.unusedSimpArgs false

/-- A tuple as a packet tells it. -/
def tla (pr a : Int) : Int := if pr = 47 then 0 else a
def tlb (pr a b : Int) : Int := if pr = 1 then a else b

set_option maxHeartbeats 2000000 in
theorem told10_any (tp s d a b : Int) (w : World) : Calls Tryd.prog 10 #[.agg #[.int .u8 tp, .int .u32 s, .int .u32 d, .int .u16 a, .int .u16 b]] w fun e w' => e = .returned (.agg #[.int .u8 tp, .int .u32 s, .int .u32 d, .int .u16 (tla tp a), .int .u16 (tlb tp a b)]) ∧ Later w w' := by
  by_cases h1 : tp = 1
  · subst h1
    rw [show tla 1 a = a from rfl, show tlb 1 a b = a from rfl]
    go_enter Tryd.func10, Tryd.ntmps10
    go_wp2_with fail
    exact bodyPost_ret (v := .agg #[.int .u8 1, .int .u32 s, .int .u32 d, .int .u16 a, .int .u16 a]) (by simp [results, Tryd.results10, go_sem]) rfl ⟨rfl, ((Below.refl _ _).alloc (Nat.le_refl _) _).alloc (by simp) _⟩
  by_cases h47 : tp = 47
  · subst h47
    rw [show tla 47 a = 0 from rfl, show tlb 47 a b = b from rfl]
    go_enter Tryd.func10, Tryd.ntmps10
    go_wp2_with fail
    exact bodyPost_ret (v := .agg #[.int .u8 47, .int .u32 s, .int .u32 d, .int .u16 0, .int .u16 b]) (by simp [results, Tryd.results10, go_sem]) rfl ⟨rfl, ((Below.refl _ _).alloc (Nat.le_refl _) _).alloc (by simp) _⟩
  have e1 : (tp == 1) = false := by simp [h1]
  have e47 : (tp == 47) = false := by simp [h47]
  rw [show tla tp a = a from by unfold tla; rw [if_neg h47], show tlb tp a b = b from by unfold tlb; rw [if_neg h1]]
  clear h1 h47
  go_enter Tryd.func10, Tryd.ntmps10
  go_wp2_with fail
  exact bodyPost_ret (v := .agg #[.int .u8 tp, .int .u32 s, .int .u32 d, .int .u16 a, .int .u16 b]) (by simp [results, Tryd.results10, go_sem]) rfl ⟨rfl, ((Below.refl _ _).alloc (Nat.le_refl _) _).alloc (by simp) _⟩

theorem zero_rd' (W : World) : Rd W.heap.size W (.slice none 0 0) [] := .inl ⟨_, _, rfl, rfl, by omega, fun _ => rfl⟩
theorem udp_lv : Mt.By (udp 3 4 false 1 2 []) ∧ (udp 3 4 false 1 2 []).length = 8 ∧ ofe 17 1 2 (udp 3 4 false 1 2 []) = 0 := by
  refine ⟨?_, ?_, ?_⟩
  · intro z hz
    revert z
    decide +kernel
  · decide +kernel
  · decide +kernel

set_option maxHeartbeats 8000000 in
theorem live10_any (w : World) (hT : Tb w) : Calls Tryd.prog 7 #[] w fun e w' => e = .returned (.bool true) ∧ Later w w' := by
  obtain ⟨hB0, hL0, hO0⟩ := udp_lv
  have HU := hide (rbuildUdp_any 0 0 0 0 1 2 3 4 false false (.slice none 0 0) (.slice none 0 0) none 0 0 [] [] w (zero_rd' w) Mt.By.nil (zero_rd' w) (by simp) (by simp) (by omega) (by omega) (by omega) (by omega))
  generalize udp 3 4 false 1 2 [] = zu at *
  go_enter Tryd.func7, Tryd.ntmps7
  go_wp2_with fail
  refine HU.out.mono ?_
  rintro e w1 ⟨hb1, ⟨hf, _⟩ | ⟨hf, a7, c7, a8, c8, rfl, hO7, hO8⟩⟩
  · exact absurd (by decide) hf
  simp only [List.length_nil, Nat.add_zero] at *
  have l1 : Later w w1 := hb1
  have HL0 := hide hL0
  have HO0 := hide hO0
  have hT1 := hT.below hb1 hT.pos
  have kp := heap_alloc_new w1 (.cells #[.int .u8 0, .int .u16 0, .bool false, .int .u8 0, .int .u8 17, .int .u32 1, .int .u32 2, .slice a7 0 c7, .slice a8 8 c8] 26)
  have l2 := later_alloc' w1 (.cells #[.int .u8 0, .int .u16 0, .bool false, .int .u8 0, .int .u8 17, .int .u32 1, .int .u32 2, .slice a7 0 c7, .slice a8 8 c8] 26)
  have KP := hide kp
  clear hL0 hO0 HU hb1 hf kp
  go_upto_region 2 with fail
  generalize w1.alloc _ = w2 at *
  have HR := hide (rewrite_any 0 0 0 17 1 2 false (.slice a7 0 c7) (.slice a8 8 c8) [] zu 17 5 2 6 4 w2 (hT1.below l2 hT1.pos) Mt.By.nil hB0 ((hO7.later l2).rd) ((hO8.later l2).rd) (by simp) (by rw [HL0.out]; omega) (by omega) (by omega) (by omega) (by omega) (by omega) (by omega) (by omega) (by omega) (by omega) (by omega))
  have HZ : Hid (rwe 17 17 1 2 ([] : List Int).length zu = 0) := by show _ = _; unfold rwe; rw [if_neg (by simp), HO0.out, if_neg (by simp), HL0.out]; rfl
  have HTL := hide (rwD_tells (s := 5) (d := 2) (a := 6) (b := 4) hB0 HO0.out (by omega) (by omega) (by omega) (by omega))
  have HBR := hide (rwD_by (pr := 17) (s := 5) (d := 2) hB0 (a := 6) (b := 4) (by omega) (by omega))
  have HLR := hide (rwD_length 17 5 2 6 4 zu)
  generalize rwD 17 5 2 6 4 zu = zr at *
  have kP := block_cell KP.out
  go_wp2_with fail
  refine HR.out.mono ?_
  rintro e w3 ⟨hb3, ⟨hf, _⟩ | ⟨hf, ao, co, ad, cd, rfl, hOo, hOd⟩⟩
  · exact absurd HZ.out hf
  have l3 : Later w2 w3 := hb3
  rw [HL0.out] at hOd ⊢
  simp only [List.length_nil] at *
  have kq := heap_alloc_new w3 (.cells #[.int .u8 0, .int .u16 0, .bool false, .int .u8 0, .int .u8 17, .int .u32 5, .int .u32 2, .slice ao 0 co, .slice ad 8 cd] 26)
  have l4 := later_alloc' w3 (.cells #[.int .u8 0, .int .u16 0, .bool false, .int .u8 0, .int .u8 17, .int .u32 5, .int .u32 2, .slice ao 0 co, .slice ad 8 cd] 26)
  have KQ := hide kq
  clear kP HR hf hb3 kq
  go_upto_region 3 with fail
  generalize w3.alloc _ = w4 at *
  have kQ := block_cell KQ.out
  have HOF := hide (rof_any 0 0 0 17 5 2 false (.slice ao 0 co) (.slice ad 8 cd) zr w4 HBR.out (hOd.later l4).rd (by rw [HLR.out, HL0.out]; omega) (by omega) (by omega))
  rw [HTL.out.1, HTL.out.2.1, HTL.out.2.2, otv_ok] at HOF
  simp only [show (if (17 : Int) = 47 then (0 : Int) else 6) = 6 from rfl, show (if (17 : Int) = 1 then (6 : Int) else 4) = 4 from rfl] at HOF
  go_wp2_with fail
  refine HOF.out.mono ?_
  rintro e w5 ⟨hb5, rfl⟩
  have l5 : Later w4 w5 := hb5
  go_wp2_with fail
  go_ret
  exact ⟨rfl, l1.trans (l2.trans (l3.trans (l4.trans (l5.trans (later_alloc' _ _)))))⟩
end Go.Proofs.YtdabhbadcbnkhaaDoor

/- The walk of MangleTuple. -/
namespace Go.Proofs.YtdabhbadcbnkhaaDoor
open Go.RowKit Go.Shelf
set_option maxRecDepth 100000
set_option linter.unusedVariables false
set_option linter.unusedSimpArgs false

theorem rwe_zero {pr tp src dst : Int} {lo : Nat} {zd : List Int} (h : rwe pr tp src dst lo zd = 0) : pr = tp ∧ ofe pr src dst zd = 0 ∧ flt lo zd.length = 0 := by
  unfold rwe at h
  split at h
  · omega
  split at h
  · rename_i h1 h2; exact absurd h h2
  · rename_i h1 h2; exact ⟨by simpa using h1, by simpa using h2, h⟩

set_option maxHeartbeats 16000000 in
theorem walk_MangleTuple (w : World) (hT : Tb w) (tos id ttl pr src dst : Int) (keep : Bool) (so sd : Value) (zo zd : List Int) (hBo : Mt.By zo) (hBd : Mt.By zd) (hIo : Rd w.heap.size w so zo) (hId : Rd w.heap.size w sd zd) (hlo : zo.length ≤ 140737488351232) (hld : zd.length ≤ 140737488351232)
    (ht : 0 ≤ tos ∧ tos ≤ 255) (hid : 0 ≤ id ∧ id ≤ 65535) (htt : 0 ≤ ttl ∧ ttl ≤ 255) (hpr : 0 ≤ pr ∧ pr ≤ 255) (hsr : 0 ≤ src ∧ src ≤ 4294967295) (hds : 0 ≤ dst ∧ dst ≤ 4294967295)
    (tp s d a b : Int) (htp : 0 ≤ tp ∧ tp ≤ 255) (hs : 0 ≤ s ∧ s ≤ 4294967295) (hd : 0 ≤ d ∧ d ≤ 4294967295) (ha : 0 ≤ a ∧ a ≤ 65535) (hb : 0 ≤ b ∧ b ≤ 65535) :
    Calls Tryd.prog 3 #[.agg #[.int .u8 tos, .int .u16 id, .bool keep, .int .u8 ttl, .int .u8 pr, .int .u32 src, .int .u32 dst, so, sd], .agg #[.int .u8 tp, .int .u32 s, .int .u32 d, .int .u16 a, .int .u16 b]] w fun e w' => e = .returned (.bool true) ∧ Below w.heap.size w w' := by
  obtain ⟨ao, co, rfl, hlo1, hmo1⟩ := hIo.slice
  obtain ⟨ad, cd, rfl, hl1, hm1⟩ := hId.slice
  have hb0 : Below w.heap.size w ((w.alloc (.cells #[.int .u8 tos, .int .u16 id, .bool keep, .int .u8 ttl, .int .u8 pr, .int .u32 src, .int .u32 dst, .slice ao zo.length co, .slice ad zd.length cd] 26)).alloc (.cells #[.int .u8 tp, .int .u32 s, .int .u32 d, .int .u16 a, .int .u16 b] 28)) := ((Below.refl _ _).alloc (Nat.le_refl _) _).alloc (by simp) _
  have p0 : ((w.alloc (.cells #[.int .u8 tos, .int .u16 id, .bool keep, .int .u8 ttl, .int .u8 pr, .int .u32 src, .int .u32 dst, .slice ao zo.length co, .slice ad zd.length cd] 26)).alloc (.cells #[.int .u8 tp, .int .u32 s, .int .u32 d, .int .u16 a, .int .u16 b] 28)).heap[w.heap.size]? = some (.cells #[.int .u8 tos, .int .u16 id, .bool keep, .int .u8 ttl, .int .u8 pr, .int .u32 src, .int .u32 dst, .slice ao zo.length co, .slice ad zd.length cd] 26) := (Below.heap_alloc _ _ _ (by simp)).trans (heap_alloc_new w _)
  have t0 : ((w.alloc (.cells #[.int .u8 tos, .int .u16 id, .bool keep, .int .u8 ttl, .int .u8 pr, .int .u32 src, .int .u32 dst, .slice ao zo.length co, .slice ad zd.length cd] 26)).alloc (.cells #[.int .u8 tp, .int .u32 s, .int .u32 d, .int .u16 a, .int .u16 b] 28)).heap[w.heap.size + 1]? = some (.cells #[.int .u8 tp, .int .u32 s, .int .u32 d, .int .u16 a, .int .u16 b] 28) := by
    have := heap_alloc_new (w.alloc (.cells #[.int .u8 tos, .int .u16 id, .bool keep, .int .u8 ttl, .int .u8 pr, .int .u32 src, .int .u32 dst, .slice ao zo.length co, .slice ad zd.length cd] 26)) (.cells #[.int .u8 tp, .int .u32 s, .int .u32 d, .int .u16 a, .int .u16 b] 28)
    rw [World.size_alloc] at this
    exact this
  have P0 := hide p0
  have T0 := hide t0
  clear p0 t0
  go_enter Tryd.func3, Tryd.ntmps3
  go_upto_region 1 with fail
  generalize (w.alloc _).alloc _ = W0 at *
  have L0 : Later w W0 := hb0
  have kP := block_cell P0.out
  have kT := block_cell T0.out
  have hIo0 := (hIo.below L0).mono L0.size
  have hId0 := (hId.below L0).mono L0.size
  have HRW := hide (rewrite_any tos id ttl pr src dst keep _ _ zo zd tp s d a b W0 (hT.below hb0 hT.pos) hBo hBd hIo0 hId0 (by omega) hld ht hid htt hpr hsr hds hs hd ha hb)
  go_wp2_with fail
  refine HRW.out.mono ?_
  rintro e w1 ⟨hb1, ⟨hf, rfl⟩ | ⟨hf, ao2, co2, ad2, cd2, rfl, hOo, hOd⟩⟩
  · have l1 : Later W0 w1 := hb1
    generalize rwe pr tp src dst zo.length zd = er at *
    have t1 : (er != 0) = true := by simp [hf]
    rw [show (zpk.toArray) = #[.int .u8 0, .int .u16 0, .bool false, .int .u8 0, .int .u8 0, .int .u32 0, .int .u32 0, .slice none 0 0, .slice none 0 0] from rfl]
    have l2 := later_alloc' w1 (.cells #[.int .u8 0, .int .u16 0, .bool false, .int .u8 0, .int .u8 0, .int .u32 0, .int .u32 0, .slice none 0 0, .slice none 0 0] 26)
    have KQ := hide (heap_alloc_new w1 (.cells #[.int .u8 0, .int .u16 0, .bool false, .int .u8 0, .int .u8 0, .int .u32 0, .int .u32 0, .slice none 0 0, .slice none 0 0] 26))
    clear kP kT HRW hf
    go_upto_region 3 with fail
    generalize w1.alloc _ = w2 at *
    have L2 : Later w w2 := L0.trans (l1.trans l2)
    go_wp2_with fail
    refine (live10_any w2 (hT.below L2 hT.pos)).mono ?_
    rintro e w3 ⟨rfl, l3⟩
    have kQ := block_cell ((l3.block w1.heap.size (Array.getElem?_eq_some_iff.1 KQ.out).1).trans KQ.out)
    have HS := hide (rsame_any 0 0 0 0 0 0 0 0 0 0 0 0 false false (.slice none 0 0) (.slice none 0 0) (.slice none 0 0) (.slice none 0 0) [] [] [] [] w3 Mt.By.nil Mt.By.nil Mt.By.nil Mt.By.nil (zero_rd' w3) (zero_rd' w3) (zero_rd' w3) (zero_rd' w3))
    rw [show smP 0 0 0 0 0 0 0 0 0 0 0 0 false false [] [] [] [] = true from by decide] at HS
    go_wp2_with fail
    refine HS.out.mono ?_
    rintro e w4 ⟨rfl, l4⟩
    go_wp2_with fail
    go_ret
    exact ⟨rfl, L2.trans (l3.trans l4)⟩
  · have l1 : Later W0 w1 := hb1
    obtain ⟨hpt, hoe, hfl⟩ := rwe_zero hf
    subst hpt
    have HTL := hide (rwD_tells (s := s) (d := d) (a := a) (b := b) hBd hoe hs hd ha hb)
    have HBR := hide (rwD_by (pr := pr) (s := s) (d := d) hBd ha hb)
    have HLR := hide (rwD_length pr s d a b zd)
    have HTD := hide (fun v => told10_any pr s d a b v)
    have HRI := hide (fun v => rright_any tos id ttl pr s d keep ao2 ad2 zo.length co2 zd.length cd2 v (by omega) (by omega))
    rw [hfl] at HRI
    simp only [show ((0 : Int) == 0) = true from rfl] at HRI
    have h65 : zd.length ≤ 65535 := by have := flt_fit2 hfl; omega
    have H65 := hide h65
    generalize rwD pr s d a b zd = zr at *
    rw [show (if pr = 47 then (0 : Int) else a) = tla pr a from rfl, show (if pr = 1 then a else b) = tlb pr a b from rfl] at HTL
    generalize tla pr a = ta at *
    generalize tlb pr a b = tb at *
    have l2 := later_alloc' w1 (.cells #[.int .u8 tos, .int .u16 id, .bool keep, .int .u8 ttl, .int .u8 pr, .int .u32 s, .int .u32 d, .slice ao2 zo.length co2, .slice ad2 zd.length cd2] 26)
    have KQ := hide (heap_alloc_new w1 (.cells #[.int .u8 tos, .int .u16 id, .bool keep, .int .u8 ttl, .int .u8 pr, .int .u32 s, .int .u32 d, .slice ao2 zo.length co2, .slice ad2 zd.length cd2] 26))
    clear kP kT HRW hf hoe hfl h65
    go_upto_region 4 with fail
    generalize w1.alloc _ = w2 at *
    have HOF := hide (rof_any tos id ttl pr s d keep (.slice ao2 zo.length co2) (.slice ad2 zd.length cd2) zr w2 HBR.out (hOd.later l2).rd (by rw [HLR.out]; have := H65.out; omega) hs hd)
    rw [HTL.out.1, HTL.out.2.1, HTL.out.2.2, otv_ok] at HOF
    have kQ := block_cell KQ.out
    go_wp2_with fail
    refine HOF.out.mono ?_
    rintro e w3 ⟨hb3, rfl⟩
    have l3 : Later w2 w3 := hb3
    have l4 := later_alloc' w3 (.cells #[.int .u8 pr, .int .u32 s, .int .u32 d, .int .u16 ta, .int .u16 tb] 28)
    have KS := hide (heap_alloc_new w3 (.cells #[.int .u8 pr, .int .u32 s, .int .u32 d, .int .u16 ta, .int .u16 tb] 28))
    clear kQ HOF hb3
    go_upto_region 5 with fail
    generalize w3.alloc _ = w4 at *
    have L4 : Later w w4 := L0.trans (l1.trans (l2.trans (l3.trans l4)))
    refine anyR_begin (R := Later) Later.pre Later.drew 55 rfl (by kernel_rfl) (fun V0 hV0 => ?_)
    have HTb : Hid (∀ v, Later V0 v → Tb v) := fun v hv => hT.below (L4.trans (hV0.trans hv)) hT.pos
    have qP : ∀ v, Later V0 v → ∀ j, v.cell? ⟨w.heap.size, j, none⟩ = #[Value.int .u8 tos, .int .u16 id, .bool keep, .int .u8 ttl, .int .u8 pr, .int .u32 src, .int .u32 dst, .slice ao zo.length co, .slice ad zd.length cd][j]? := fun v hv => block_cell (((l1.trans (l2.trans (l3.trans (l4.trans (hV0.trans hv))))).block w.heap.size (Array.getElem?_eq_some_iff.1 P0.out).1).trans P0.out)
    have qT : ∀ v, Later V0 v → ∀ j, v.cell? ⟨w.heap.size + 1, j, none⟩ = #[Value.int .u8 pr, .int .u32 s, .int .u32 d, .int .u16 a, .int .u16 b][j]? := fun v hv => block_cell (((l1.trans (l2.trans (l3.trans (l4.trans (hV0.trans hv))))).block (w.heap.size + 1) (Array.getElem?_eq_some_iff.1 T0.out).1).trans T0.out)
    have qQ : ∀ v, Later V0 v → ∀ j, v.cell? ⟨w1.heap.size, j, none⟩ = #[Value.int .u8 tos, .int .u16 id, .bool keep, .int .u8 ttl, .int .u8 pr, .int .u32 s, .int .u32 d, .slice ao2 zo.length co2, .slice ad2 zd.length cd2][j]? := fun v hv => block_cell (((l3.trans (l4.trans (hV0.trans hv))).block w1.heap.size (Array.getElem?_eq_some_iff.1 KQ.out).1).trans KQ.out)
    have qS : ∀ v, Later V0 v → ∀ j, v.cell? ⟨w3.heap.size, j, none⟩ = #[Value.int .u8 pr, .int .u32 s, .int .u32 d, .int .u16 ta, .int .u16 tb][j]? := fun v hv => block_cell (((hV0.trans hv).block w3.heap.size (Array.getElem?_eq_some_iff.1 KS.out).1).trans KS.out)
    have qo : ∀ v, Later V0 v → (convert 24 9 (.slice ao zo.length co)).run Tryd.prog v = .ok (.string (strOfNums zo)) v := fun v hv => conv_rd 24 9 5 Tryd.underlying24 Tryd.underlying5 Tryd.underlying9 (hIo.below (L4.trans (hV0.trans hv)))
    have qn : ∀ v, Later V0 v → (convert 24 9 (.slice ao2 zo.length co2)).run Tryd.prog v = .ok (.string (strOfNums zo)) v := fun v hv => conv_rd 24 9 5 Tryd.underlying24 Tryd.underlying5 Tryd.underlying9 (hOo.rd.below (l2.trans (l3.trans (l4.trans (hV0.trans hv)))))
    refine anyR_take Later.pre 0 (.bool true) rfl (by kernel_rfl) (by kernel_rfl) (by kernel_rfl) (fun _ _ _ h => h) rfl (fun v1 hv1 => goes_call 7 #[] (by go_simp) (live10_any v1 (HTb.out v1 hv1))) ?_
    simp only [Act.put, List.setIfInBounds_toArray, List.set_cons_zero, List.set_cons_succ]
    refine anyR_val Later.pre 1 rfl (by kernel_rfl) (by kernel_rfl) (by kernel_rfl) (fun _ _ _ _ h => h) rfl ?_; apply Exists.intro; refine ⟨fun v1 hv1 => ?_, ?_⟩; (· (go_simp; rfl)); simp only [Act.put, List.setIfInBounds_toArray, List.set_cons_zero, List.set_cons_succ]
    refine anyR_valG Later.pre 2 rfl (by kernel_rfl) (by kernel_rfl) (by kernel_rfl) (fun _ _ _ _ h => h) (by rfl) ?_; apply Exists.intro; refine ⟨fun v1 hv1 => ?_, ?_⟩; (· (go_simp; rfl)); simp only [Act.put, List.setIfInBounds_toArray, List.set_cons_zero, List.set_cons_succ]
    refine anyR_valG Later.pre 3 rfl (by kernel_rfl) (by kernel_rfl) (by kernel_rfl) (fun _ _ _ _ h => h) (by rfl) ?_; apply Exists.intro; refine ⟨fun v1 hv1 => ?_, ?_⟩; (· (go_simp; rfl)); simp only [Act.put, List.setIfInBounds_toArray, List.set_cons_zero, List.set_cons_succ]
    refine anyR_val Later.pre 4 rfl (by kernel_rfl) (by kernel_rfl) (by kernel_rfl) (fun _ _ _ _ h => h) rfl ?_; apply Exists.intro; refine ⟨fun v1 hv1 => ?_, ?_⟩; (· (go_simp; rfl)); simp only [Act.put, List.setIfInBounds_toArray, List.set_cons_zero, List.set_cons_succ]
    refine anyR_val Later.pre 5 rfl (by kernel_rfl) (by kernel_rfl) (by kernel_rfl) (fun _ _ _ _ h => h) rfl ?_; apply Exists.intro; refine ⟨fun v1 hv1 => ?_, ?_⟩; (· (go_simp; rfl)); simp only [Act.put, List.setIfInBounds_toArray, List.set_cons_zero, List.set_cons_succ]
    refine anyR_valG Later.pre 6 rfl (by kernel_rfl) (by kernel_rfl) (by kernel_rfl) (fun _ _ _ _ h => h) (by rfl) ?_; apply Exists.intro; refine ⟨fun v1 hv1 => ?_, ?_⟩; (· (go_simp; rfl)); simp only [Act.put, List.setIfInBounds_toArray, List.set_cons_zero, List.set_cons_succ]
    refine anyR_valG Later.pre 7 rfl (by kernel_rfl) (by kernel_rfl) (by kernel_rfl) (fun _ _ _ _ h => h) (by rfl) ?_; apply Exists.intro; refine ⟨fun v1 hv1 => ?_, ?_⟩; (· (go_simp; rfl)); simp only [Act.put, List.setIfInBounds_toArray, List.set_cons_zero, List.set_cons_succ]
    refine anyR_takeG Later.pre 8 (.agg #[.int .u8 pr, .int .u32 s, .int .u32 d, .int .u16 ta, .int .u16 tb]) rfl (by kernel_rfl) (by kernel_rfl) (by kernel_rfl) (fun _ _ _ h => h) (by rfl) (fun v1 hv1 => goes_call 10 #[.agg #[.int .u8 pr, .int .u32 s, .int .u32 d, .int .u16 a, .int .u16 b]] (by go_simp) (HTD.out v1)) ?_
    simp only [Act.put, List.setIfInBounds_toArray, List.set_cons_zero, List.set_cons_succ]
    refine anyR_valG Later.pre 9 rfl (by kernel_rfl) (by kernel_rfl) (by kernel_rfl) (fun _ _ _ _ h => h) (by rfl) ?_; apply Exists.intro; refine ⟨fun v1 hv1 => ?_, ?_⟩; (· (go_simp; rfl)); simp only [Act.put, List.setIfInBounds_toArray, List.set_cons_zero, List.set_cons_succ]
    refine anyR_val Later.pre 10 rfl (by kernel_rfl) (by kernel_rfl) (by kernel_rfl) (fun _ _ _ _ h => h) rfl ?_; apply Exists.intro; refine ⟨fun v1 hv1 => ?_, ?_⟩; (· (go_simp; rfl)); simp only [Act.put, List.setIfInBounds_toArray, List.set_cons_zero, List.set_cons_succ]
    refine anyR_val Later.pre 11 rfl (by kernel_rfl) (by kernel_rfl) (by kernel_rfl) (fun _ _ _ _ h => h) rfl ?_; apply Exists.intro; refine ⟨fun v1 hv1 => ?_, ?_⟩; (· (go_simp; rfl)); simp only [Act.put, List.setIfInBounds_toArray, List.set_cons_zero, List.set_cons_succ]
    refine anyR_valG Later.pre 12 rfl (by kernel_rfl) (by kernel_rfl) (by kernel_rfl) (fun _ _ _ _ h => h) (by rfl) ?_; apply Exists.intro; refine ⟨fun v1 hv1 => ?_, ?_⟩; (· (go_simp; rfl)); simp only [Act.put, List.setIfInBounds_toArray, List.set_cons_zero, List.set_cons_succ]
    refine anyR_takeG Later.pre 13 (.bool true) rfl (by kernel_rfl) (by kernel_rfl) (by kernel_rfl) (fun _ _ _ h => h) (by rfl) (fun v1 hv1 => goes_call 11 #[.agg #[.int .u8 tos, .int .u16 id, .bool keep, .int .u8 ttl, .int .u8 pr, .int .u32 s, .int .u32 d, .slice ao2 zo.length co2, .slice ad2 zd.length cd2]] (by go_simp) (HRI.out v1)) ?_
    simp only [Act.put, List.setIfInBounds_toArray, List.set_cons_zero, List.set_cons_succ]
    refine anyR_val Later.pre 14 rfl (by kernel_rfl) (by kernel_rfl) (by kernel_rfl) (fun _ _ _ _ h => h) rfl ?_; apply Exists.intro; refine ⟨fun v1 hv1 => ?_, ?_⟩; (· (go_simp; rfl)); simp only [Act.put, List.setIfInBounds_toArray, List.set_cons_zero, List.set_cons_succ]
    refine anyR_val Later.pre 15 rfl (by kernel_rfl) (by kernel_rfl) (by kernel_rfl) (fun _ _ _ _ h => h) rfl ?_; apply Exists.intro; refine ⟨fun v1 hv1 => ?_, ?_⟩; (· (go_simp; rfl)); simp only [Act.put, List.setIfInBounds_toArray, List.set_cons_zero, List.set_cons_succ]
    refine anyR_valG Later.pre 16 rfl (by kernel_rfl) (by kernel_rfl) (by kernel_rfl) (fun _ _ _ _ h => h) (by rfl) ?_; apply Exists.intro; refine ⟨fun v1 hv1 => ?_, ?_⟩; (· (go_simp; rfl)); simp only [Act.put, List.setIfInBounds_toArray, List.set_cons_zero, List.set_cons_succ]
    refine anyR_valG Later.pre 17 rfl (by kernel_rfl) (by kernel_rfl) (by kernel_rfl) (fun _ _ _ _ h => h) (by rfl) ?_; apply Exists.intro; refine ⟨fun v1 hv1 => ?_, ?_⟩; (· (go_simp; rfl)); simp only [Act.put, List.setIfInBounds_toArray, List.set_cons_zero, List.set_cons_succ]
    refine anyR_valG Later.pre 18 rfl (by kernel_rfl) (by kernel_rfl) (by kernel_rfl) (fun _ _ _ _ h => h) (by rfl) ?_; apply Exists.intro; refine ⟨fun v1 hv1 => ?_, ?_⟩; (· (go_simp; rfl)); simp only [Act.put, List.setIfInBounds_toArray, List.set_cons_zero, List.set_cons_succ]
    refine anyR_valG Later.pre 19 rfl (by kernel_rfl) (by kernel_rfl) (by kernel_rfl) (fun _ _ _ _ h => h) (by rfl) ?_; apply Exists.intro; refine ⟨fun v1 hv1 => ?_, ?_⟩; (· (go_simp; rfl)); simp only [Act.put, List.setIfInBounds_toArray, List.set_cons_zero, List.set_cons_succ]
    refine anyR_valG Later.pre 20 rfl (by kernel_rfl) (by kernel_rfl) (by kernel_rfl) (fun _ _ _ _ h => h) (by rfl) ?_; apply Exists.intro; refine ⟨fun v1 hv1 => ?_, ?_⟩; (· (go_simp; rfl)); simp only [Act.put, List.setIfInBounds_toArray, List.set_cons_zero, List.set_cons_succ]
    refine anyR_valG Later.pre 21 rfl (by kernel_rfl) (by kernel_rfl) (by kernel_rfl) (fun _ _ _ _ h => h) (by rfl) ?_; apply Exists.intro; refine ⟨fun v1 hv1 => ?_, ?_⟩; (· (go_simp; rfl)); simp only [Act.put, List.setIfInBounds_toArray, List.set_cons_zero, List.set_cons_succ]
    refine anyR_valG Later.pre 22 rfl (by kernel_rfl) (by kernel_rfl) (by kernel_rfl) (fun _ _ _ _ h => h) (by rfl) ?_; apply Exists.intro; refine ⟨fun v1 hv1 => ?_, ?_⟩; (· (go_simp; rfl)); simp only [Act.put, List.setIfInBounds_toArray, List.set_cons_zero, List.set_cons_succ]
    refine anyR_val Later.pre 23 rfl (by kernel_rfl) (by kernel_rfl) (by kernel_rfl) (fun _ _ _ _ h => h) rfl ?_; apply Exists.intro; refine ⟨fun v1 hv1 => ?_, ?_⟩; (· (go_simp; rfl)); simp only [Act.put, List.setIfInBounds_toArray, List.set_cons_zero, List.set_cons_succ]
    refine anyR_val Later.pre 24 rfl (by kernel_rfl) (by kernel_rfl) (by kernel_rfl) (fun _ _ _ _ h => h) rfl ?_; apply Exists.intro; refine ⟨fun v1 hv1 => ?_, ?_⟩; (· (go_simp; rfl)); simp only [Act.put, List.setIfInBounds_toArray, List.set_cons_zero, List.set_cons_succ]
    refine anyR_valG Later.pre 25 rfl (by kernel_rfl) (by kernel_rfl) (by kernel_rfl) (fun _ _ _ _ h => h) (by rfl) ?_; apply Exists.intro; refine ⟨fun v1 hv1 => ?_, ?_⟩; (· (go_simp; rfl)); simp only [Act.put, List.setIfInBounds_toArray, List.set_cons_zero, List.set_cons_succ]
    refine anyR_valG Later.pre 26 rfl (by kernel_rfl) (by kernel_rfl) (by kernel_rfl) (fun _ _ _ _ h => h) (by rfl) ?_; apply Exists.intro; refine ⟨fun v1 hv1 => ?_, ?_⟩; (· (go_simp; rfl)); simp only [Act.put, List.setIfInBounds_toArray, List.set_cons_zero, List.set_cons_succ]
    refine anyR_valG Later.pre 27 rfl (by kernel_rfl) (by kernel_rfl) (by kernel_rfl) (fun _ _ _ _ h => h) (by rfl) ?_; apply Exists.intro; refine ⟨fun v1 hv1 => ?_, ?_⟩; (· (go_simp; rfl)); simp only [Act.put, List.setIfInBounds_toArray, List.set_cons_zero, List.set_cons_succ]
    refine anyR_valG Later.pre 28 rfl (by kernel_rfl) (by kernel_rfl) (by kernel_rfl) (fun _ _ _ _ h => h) (by rfl) ?_; apply Exists.intro; refine ⟨fun v1 hv1 => ?_, ?_⟩; (· (go_simp; rfl)); simp only [Act.put, List.setIfInBounds_toArray, List.set_cons_zero, List.set_cons_succ]
    refine anyR_valG Later.pre 29 rfl (by kernel_rfl) (by kernel_rfl) (by kernel_rfl) (fun _ _ _ _ h => h) (by rfl) ?_; apply Exists.intro; refine ⟨fun v1 hv1 => ?_, ?_⟩; (· (go_simp; rfl)); simp only [Act.put, List.setIfInBounds_toArray, List.set_cons_zero, List.set_cons_succ]
    refine anyR_val Later.pre 30 rfl (by kernel_rfl) (by kernel_rfl) (by kernel_rfl) (fun _ _ _ _ h => h) rfl ?_; apply Exists.intro; refine ⟨fun v1 hv1 => ?_, ?_⟩; (· (go_simp; rfl)); simp only [Act.put, List.setIfInBounds_toArray, List.set_cons_zero, List.set_cons_succ]
    refine anyR_val Later.pre 31 rfl (by kernel_rfl) (by kernel_rfl) (by kernel_rfl) (fun _ _ _ _ h => h) rfl ?_; apply Exists.intro; refine ⟨fun v1 hv1 => ?_, ?_⟩; (· (go_simp; rfl)); simp only [Act.put, List.setIfInBounds_toArray, List.set_cons_zero, List.set_cons_succ]
    refine anyR_valG Later.pre 32 rfl (by kernel_rfl) (by kernel_rfl) (by kernel_rfl) (fun _ _ _ _ h => h) (by rfl) ?_; apply Exists.intro; refine ⟨fun v1 hv1 => ?_, ?_⟩; (· (go_simp; rfl)); simp only [Act.put, List.setIfInBounds_toArray, List.set_cons_zero, List.set_cons_succ]
    refine anyR_valG Later.pre 33 rfl (by kernel_rfl) (by kernel_rfl) (by kernel_rfl) (fun _ _ _ _ h => h) (by rfl) ?_; apply Exists.intro; refine ⟨fun v1 hv1 => ?_, ?_⟩; (· (go_simp; rfl)); simp only [Act.put, List.setIfInBounds_toArray, List.set_cons_zero, List.set_cons_succ]
    refine anyR_valG Later.pre 34 rfl (by kernel_rfl) (by kernel_rfl) (by kernel_rfl) (fun _ _ _ _ h => h) (by rfl) ?_; apply Exists.intro; refine ⟨fun v1 hv1 => ?_, ?_⟩; (· (go_simp; rfl)); simp only [Act.put, List.setIfInBounds_toArray, List.set_cons_zero, List.set_cons_succ]
    refine anyR_valG Later.pre 35 rfl (by kernel_rfl) (by kernel_rfl) (by kernel_rfl) (fun _ _ _ _ h => h) (by rfl) ?_; apply Exists.intro; refine ⟨fun v1 hv1 => ?_, ?_⟩; (· (go_simp; rfl)); simp only [Act.put, List.setIfInBounds_toArray, List.set_cons_zero, List.set_cons_succ]
    refine anyR_valG Later.pre 36 rfl (by kernel_rfl) (by kernel_rfl) (by kernel_rfl) (fun _ _ _ _ h => h) (by rfl) ?_; apply Exists.intro; refine ⟨fun v1 hv1 => ?_, ?_⟩; (· (go_simp; rfl)); simp only [Act.put, List.setIfInBounds_toArray, List.set_cons_zero, List.set_cons_succ]
    refine anyR_val Later.pre 37 rfl (by kernel_rfl) (by kernel_rfl) (by kernel_rfl) (fun _ _ _ _ h => h) rfl ?_; apply Exists.intro; refine ⟨fun v1 hv1 => ?_, ?_⟩; (· (go_simp; rfl)); simp only [Act.put, List.setIfInBounds_toArray, List.set_cons_zero, List.set_cons_succ]
    refine anyR_val Later.pre 38 rfl (by kernel_rfl) (by kernel_rfl) (by kernel_rfl) (fun _ _ _ _ h => h) rfl ?_; apply Exists.intro; refine ⟨fun v1 hv1 => ?_, ?_⟩; (· (go_simp; rfl)); simp only [Act.put, List.setIfInBounds_toArray, List.set_cons_zero, List.set_cons_succ]
    refine anyR_valG Later.pre 39 rfl (by kernel_rfl) (by kernel_rfl) (by kernel_rfl) (fun _ _ _ _ h => h) (by rfl) ?_; apply Exists.intro; refine ⟨fun v1 hv1 => ?_, ?_⟩; (· (go_simp; rfl)); simp only [Act.put, List.setIfInBounds_toArray, List.set_cons_zero, List.set_cons_succ]
    refine anyR_valG Later.pre 40 rfl (by kernel_rfl) (by kernel_rfl) (by kernel_rfl) (fun _ _ _ _ h => h) (by rfl) ?_; apply Exists.intro; refine ⟨fun v1 hv1 => ?_, ?_⟩; (· (go_simp; rfl)); simp only [Act.put, List.setIfInBounds_toArray, List.set_cons_zero, List.set_cons_succ]
    refine anyR_valG Later.pre 41 rfl (by kernel_rfl) (by kernel_rfl) (by kernel_rfl) (fun _ _ _ _ h => h) (by rfl) ?_; apply Exists.intro; refine ⟨fun v1 hv1 => ?_, ?_⟩; (· (go_simp; rfl)); simp only [Act.put, List.setIfInBounds_toArray, List.set_cons_zero, List.set_cons_succ]
    refine anyR_valG Later.pre 42 rfl (by kernel_rfl) (by kernel_rfl) (by kernel_rfl) (fun _ _ _ _ h => h) (by rfl) ?_; apply Exists.intro; refine ⟨fun v1 hv1 => ?_, ?_⟩; (· (go_simp; rfl)); simp only [Act.put, List.setIfInBounds_toArray, List.set_cons_zero, List.set_cons_succ]
    refine anyR_valG Later.pre 43 rfl (by kernel_rfl) (by kernel_rfl) (by kernel_rfl) (fun _ _ _ _ h => h) (by rfl) ?_; apply Exists.intro; refine ⟨fun v1 hv1 => ?_, ?_⟩; (· (go_simp; rfl)); simp only [Act.put, List.setIfInBounds_toArray, List.set_cons_zero, List.set_cons_succ]
    refine anyR_val Later.pre 44 rfl (by kernel_rfl) (by kernel_rfl) (by kernel_rfl) (fun _ _ _ _ h => h) rfl ?_; apply Exists.intro; refine ⟨fun v1 hv1 => ?_, ?_⟩; (· (go_simp; rfl)); simp only [Act.put, List.setIfInBounds_toArray, List.set_cons_zero, List.set_cons_succ]
    refine anyR_val Later.pre 45 rfl (by kernel_rfl) (by kernel_rfl) (by kernel_rfl) (fun _ _ _ _ h => h) rfl ?_; apply Exists.intro; refine ⟨fun v1 hv1 => ?_, ?_⟩; (· (go_simp; rfl)); simp only [Act.put, List.setIfInBounds_toArray, List.set_cons_zero, List.set_cons_succ]
    refine anyR_valG Later.pre 46 rfl (by kernel_rfl) (by kernel_rfl) (by kernel_rfl) (fun _ _ _ _ h => h) (by rfl) ?_; apply Exists.intro; refine ⟨fun v1 hv1 => ?_, ?_⟩; (· (go_simp; rfl)); simp only [Act.put, List.setIfInBounds_toArray, List.set_cons_zero, List.set_cons_succ]
    refine anyR_valG Later.pre 47 rfl (by kernel_rfl) (by kernel_rfl) (by kernel_rfl) (fun _ _ _ _ h => h) (by rfl) ?_; apply Exists.intro; refine ⟨fun v1 hv1 => ?_, ?_⟩; (· (go_simp; rfl)); simp only [Act.put, List.setIfInBounds_toArray, List.set_cons_zero, List.set_cons_succ]
    refine anyR_valG Later.pre 48 rfl (by kernel_rfl) (by kernel_rfl) (by kernel_rfl) (fun _ _ _ _ h => h) (by rfl) ?_; apply Exists.intro; refine ⟨fun v1 hv1 => ?_, ?_⟩; (· (go_simp; rfl)); simp only [Act.put, List.setIfInBounds_toArray, List.set_cons_zero, List.set_cons_succ]
    refine anyR_valG Later.pre 49 rfl (by kernel_rfl) (by kernel_rfl) (by kernel_rfl) (fun _ _ _ _ h => h) (by rfl) ?_; apply Exists.intro; refine ⟨fun v1 hv1 => ?_, ?_⟩; (· (go_simp; rfl)); simp only [Act.put, List.setIfInBounds_toArray, List.set_cons_zero, List.set_cons_succ]
    refine anyR_valG Later.pre 50 rfl (by kernel_rfl) (by kernel_rfl) (by kernel_rfl) (fun _ _ _ _ h => h) (by rfl) ?_; apply Exists.intro; refine ⟨fun v1 hv1 => ?_, ?_⟩; (· (go_simp; rfl)); simp only [Act.put, List.setIfInBounds_toArray, List.set_cons_zero, List.set_cons_succ]
    refine anyR_valG Later.pre 51 rfl (by kernel_rfl) (by kernel_rfl) (by kernel_rfl) (fun _ _ _ _ h => h) (by rfl) ?_; apply Exists.intro; refine ⟨fun v1 hv1 => ?_, ?_⟩; (· (go_simp; rfl)); simp only [Act.put, List.setIfInBounds_toArray, List.set_cons_zero, List.set_cons_succ]
    refine anyR_valG Later.pre 52 rfl (by kernel_rfl) (by kernel_rfl) (by kernel_rfl) (fun _ _ _ _ h => h) (by rfl) ?_; apply Exists.intro; refine ⟨fun v1 hv1 => ?_, ?_⟩; (· (go_simp; rfl)); simp only [Act.put, List.setIfInBounds_toArray, List.set_cons_zero, List.set_cons_succ]
    refine anyR_val Later.pre 53 rfl (by kernel_rfl) (by kernel_rfl) (by kernel_rfl) (fun _ _ _ _ h => h) rfl ?_; apply Exists.intro; refine ⟨fun v1 hv1 => ?_, ?_⟩; (· (go_simp; rfl)); simp only [Act.put, List.setIfInBounds_toArray, List.set_cons_zero, List.set_cons_succ]
    refine anyR_val Later.pre 54 rfl (by kernel_rfl) (by kernel_rfl) (by kernel_rfl) (fun _ _ _ _ h => h) rfl ?_; apply Exists.intro; refine ⟨fun v1 hv1 => ?_, ?_⟩; (· (go_simp; rfl)); simp only [Act.put, List.setIfInBounds_toArray, List.set_cons_zero, List.set_cons_succ]
    clear qP qT qQ qS qo qn
    refine anyR_done (by kernel_rfl) (fun V9 hV9 => ?_)
    go_wp2_with fail
    go_ret
    exact ⟨rfl, L4.trans (hV0.trans hV9)⟩
end Go.Proofs.YtdabhbadcbnkhaaDoor
