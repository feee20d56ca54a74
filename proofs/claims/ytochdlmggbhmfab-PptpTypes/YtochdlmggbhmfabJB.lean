/- Package pptp: how a message's bytes are laid out. -/
import Derived.Laws.Cover3
import Derived.Deep.DeepCutAuto
import Derived.Deep.CutBlock
import Derived.Test.YtochdlmggbhmfabJA
import Derived.Test.YtochdlmggbhmfabRs
import Derived.Test.YtochdlmggbhmfabRt
namespace Go.Proofs.Ytochdlmggbhmfab
open Go.RowKit Go.Shelf
set_option maxRecDepth 100000
set_option linter.unusedVariables false
set_option linter.unusedSimpArgs false

theorem equalIn_u8 (dd : Nat) (x y : Int) (w : World) : (Op.equalIn (dd + 1) 5 (.int .u8 x) (.int .u8 y)).run Try.prog w = .ok (x == y) w := by
  have hu := Try.underlying5
  simp [Op.equalIn, run_underlying hu]

theorem eqItems_u8 (j : Nat) (is : List Nat) (xs ys : Array Value) (x y : Int) (w : World) (hx : xs[j]? = some (.int .u8 x)) (hy : ys[j]? = some (.int .u8 y)) :
    (Op.eqItems 9999 5 1 xs ys (j :: is)).run Try.prog w = if (x == y) = true then (Op.eqItems 9999 5 1 xs ys is).run Try.prog w else .ok false w := by
  obtain ⟨i0, hi, hz0, hz1, hz2⟩ := info_parts info_u8
  have hu := Try.underlying5
  have hpx : (part 5 xs (j * 1)).run Try.prog w = .ok (.int .u8 x) w := by
    obtain ⟨hlt, hxe⟩ := Array.getElem?_eq_some_iff.1 hx
    simp [part, run_sizeOf w hi, hz1, hx, hlt, hxe, go_sem]
  have hpy : (part 5 ys (j * 1)).run Try.prog w = .ok (.int .u8 y) w := by
    obtain ⟨hlt, hxe⟩ := Array.getElem?_eq_some_iff.1 hy
    simp [part, run_sizeOf w hi, hz1, hy, hlt, hxe, go_sem]
  have he : (Op.equalIn 9999 5 (.int .u8 x) (.int .u8 y)).run Try.prog w = .ok (x == y) w := equalIn_u8 9998 x y w
  simp only [Op.eqItems, Sem.run_bind, hpx, hpy, he, Result.andThen_ok]
  cases (x == y) <;> simp

/-- Twelve bytes of an array. -/
abbrev a12 (z0 z1 z2 z3 z4 z5 z6 z7 z8 z9 zA zB : Int) : Value := .agg #[.int .u8 z0, .int .u8 z1, .int .u8 z2, .int .u8 z3, .int .u8 z4, .int .u8 z5, .int .u8 z6, .int .u8 z7, .int .u8 z8, .int .u8 z9, .int .u8 zA, .int .u8 zB]

/-- Is each byte of a list that of another one? -/
def eqs : List Int → List Int → Bool
  | x :: xs, y :: ys => x == y && eqs xs ys
  | _, _ => true

theorem eqItems_all (X Y : Array Value) (w : World) : ∀ (l : List (Nat × Int × Int)), (∀ p ∈ l, X[p.1]? = some (.int .u8 p.2.1) ∧ Y[p.1]? = some (.int .u8 p.2.2)) →
    (Op.eqItems 9999 5 1 X Y (l.map (·.1))).run Try.prog w = .ok (eqs (l.map (·.2.1)) (l.map (·.2.2))) w
  | [], _ => by simp [Op.eqItems, eqs]
  | p :: r, h => by
    have h1 := h p (by simp)
    have ih := eqItems_all X Y w r (fun q hq => h q (by simp [hq]))
    rw [List.map_cons, eqItems_u8 p.1 _ X Y p.2.1 p.2.2 w h1.1 h1.2, ih]
    simp only [List.map_cons, eqs]
    cases (p.2.1 == p.2.2) <;> simp

theorem equal12 (x0 x1 x2 x3 x4 x5 x6 x7 x8 x9 xA xB y0 y1 y2 y3 y4 y5 y6 y7 y8 y9 yA yB : Int) (w : World) :
    (Op.equalIn 10000 42 (a12 x0 x1 x2 x3 x4 x5 x6 x7 x8 x9 xA xB) (a12 y0 y1 y2 y3 y4 y5 y6 y7 y8 y9 yA yB)).run Try.prog w = .ok (eqs [x0, x1, x2, x3, x4, x5, x6, x7, x8, x9, xA, xB] [y0, y1, y2, y3, y4, y5, y6, y7, y8, y9, yA, yB]) w := by
  obtain ⟨i0, hi, hz0, hz1, hz2⟩ := info_parts info_u8
  have hc : Try.prog.cellsOf 5 = 1 := by kernel_rfl
  have h := run_equalIn_array (P := Try.prog) (w := w) 9999 #[.int .u8 x0, .int .u8 x1, .int .u8 x2, .int .u8 x3, .int .u8 x4, .int .u8 x5, .int .u8 x6, .int .u8 x7, .int .u8 x8, .int .u8 x9, .int .u8 xA, .int .u8 xB] #[.int .u8 y0, .int .u8 y1, .int .u8 y2, .int .u8 y3, .int .u8 y4, .int .u8 y5, .int .u8 y6, .int .u8 y7, .int .u8 y8, .int .u8 y9, .int .u8 yA, .int .u8 yB] Try.underlying42 hi
  rw [hc, show List.range 12 = [(0, x0, y0), (1, x1, y1), (2, x2, y2), (3, x3, y3), (4, x4, y4), (5, x5, y5), (6, x6, y6), (7, x7, y7), (8, x8, y8), (9, x9, y9), (10, xA, yA), (11, xB, yB)].map (·.1) from rfl,
    eqItems_all _ _ w [(0, x0, y0), (1, x1, y1), (2, x2, y2), (3, x3, y3), (4, x4, y4), (5, x5, y5), (6, x6, y6), (7, x7, y7), (8, x8, y8), (9, x9, y9), (10, xA, yA), (11, xB, yB)] (by intro p hp; simp only [List.mem_cons, List.not_mem_nil, or_false] at hp; rcases hp with rfl | rfl | rfl | rfl | rfl | rfl | rfl | rfl | rfl | rfl | rfl | rfl <;> exact ⟨rfl, rfl⟩)] at h
  exact h

set_option maxHeartbeats 2000000 in
theorem headOf_any (n t : Int) (hn : 0 ≤ n ∧ n ≤ 65535) (ht : 0 ≤ t ∧ t ≤ 65535) (w : World) :
    Calls Try.prog 12 #[.int .i64 n, .int .i64 t] w fun e w' => e = .returned (a12 (n / 256) (n % 256) 0 1 26 43 60 77 (t / 256) (t % 256) 0 0) ∧ Later w w' := by
  have e1 : IntKind.u8.wrap (n / 256) = n / 256 := by rw [IntKind.wrap_u8]; omega
  have e2 : IntKind.u8.wrap (t / 256) = t / 256 := by rw [IntKind.wrap_u8]; omega
  go_enter Try.func12, Try.ntmps12
  go_wp2_with fail
  exact bodyPost_ret (v := a12 (n / 256) (n % 256) 0 1 26 43 60 77 (t / 256) (t % 256) 0 0) (by simp [results, Try.results12, go_sem]) rfl ⟨rfl, (Below.refl _ _).alloc (Nat.le_refl _) _⟩

/-- Is the head of a message's bytes as it is to be? -/
def hdk (zs : List Int) : Bool := eqs [zs[0]?.getD 0, zs[1]?.getD 0, zs[2]?.getD 0, zs[3]?.getD 0, zs[4]?.getD 0, zs[5]?.getD 0, zs[6]?.getD 0, zs[7]?.getD 0, zs[8]?.getD 0, zs[9]?.getD 0, zs[10]?.getD 0, zs[11]?.getD 0] [(zs.length : Int) / 256, (zs.length : Int) % 256, 0, 1, 26, 43, 60, 77, getAt2 zs 8 / 256, getAt2 zs 8 % 256, 0, 0]
/-- What a message's bytes are refused with (0: nothing); how many there are, and where the calls stand. -/
def lye (zs : List Int) : Int := if zs.length < 12 then 3 else if 65535 < zs.length then 4 else if hdk zs = false then 4 else if lkn (getAt2 zs 8) = false then 12 else if (zs.length : Int) ≠ lsz (getAt2 zs 8) then 4 else 0
def lyS (zs : List Int) : Int := if lye zs = 0 then lsz (getAt2 zs 8) else 0
def lyC (zs : List Int) : Int := if lye zs = 0 then lca (getAt2 zs 8) else -1
def lyP (zs : List Int) : Int := if lye zs = 0 then lpe (getAt2 zs 8) else -1

theorem lyv_no {zs : List Int} {c : Int} (h : lye zs = c) (hc : c ≠ 0) : lyv (lyS zs) (lyC zs) (lyP zs) = lyv 0 (-1) (-1) := by
  have h' : lye zs ≠ 0 := by omega
  unfold lyS lyC lyP
  rw [if_neg h', if_neg h', if_neg h']
theorem lyv_yes {zs : List Int} (h : lye zs = 0) : lyv (lyS zs) (lyC zs) (lyP zs) = lyv (lsz (getAt2 zs 8)) (lca (getAt2 zs 8)) (lpe (getAt2 zs 8)) := by
  unfold lyS lyC lyP
  rw [if_pos h, if_pos h, if_pos h]

set_option maxHeartbeats 8000000 in
theorem layoutOf_any {n₀ : Nat} (sv : Value) (zs : List Int) (hB : Mt.By zs) (w : World) (hn : n₀ ≤ w.heap.size) (hI : Rd n₀ w sv zs) :
    Calls Try.prog 8 #[sv] w fun e w' => e = .returned (.tuple #[lyv (lyS zs) (lyC zs) (lyP zs), .int .i64 (lye zs)]) ∧ Later w w' := by
  obtain ⟨a, cap, rfl, hl1, hm1⟩ := hI.slice
  have hb0 : Later w ((w.alloc (.cells #[.int .i64 0, .int .i64 0, .int .i64 0] 34)).alloc (.cells #[.int .i64 0, .int .i64 (-1), .int .i64 (-1)] 34)) := ((Below.refl _ _).alloc (Nat.le_refl _) _).alloc (by simp) _
  by_cases c1 : zs.length < 12
  · have t1 : (zs.length : Int) < 12 := by omega
    have HF : Hid (lye zs = 3) := by show _ = _; unfold lye; rw [if_pos c1]
    go_enter Try.func8, Try.ntmps8
    go_wp2_with fail
    exact bodyPost_ret (v := .tuple #[lyv 0 (-1) (-1), .int .i64 3]) (by simp [results, Try.results8, go_sem]) rfl ⟨by rw [lyv_no HF.out (by decide), HF.out], ((Below.refl _ _).alloc (Nat.le_refl _) _).alloc (by simp) _⟩
  have t1 : ¬ (zs.length : Int) < 12 := by omega
  have r0A : ((w.alloc (.cells #[.int .i64 0, .int .i64 0, .int .i64 0] 34)).alloc (.cells #[.int .i64 0, .int .i64 (-1), .int .i64 (-1)] 34)).heap[w.heap.size]? = some (.cells #[.int .i64 0, .int .i64 0, .int .i64 0] 34 (0, 0)) := (Below.heap_alloc _ _ _ (by simp)).trans (heap_alloc_new w _)
  have r0B : ((w.alloc (.cells #[.int .i64 0, .int .i64 0, .int .i64 0] 34)).alloc (.cells #[.int .i64 0, .int .i64 (-1), .int .i64 (-1)] 34)).heap[w.heap.size + 1]? = some (.cells #[.int .i64 0, .int .i64 (-1), .int .i64 (-1)] 34 (0, 0)) := by have := heap_alloc_new (w.alloc (.cells #[.int .i64 0, .int .i64 0, .int .i64 0] 34)) (.cells #[.int .i64 0, .int .i64 (-1), .int .i64 (-1)] 34); simpa using this
  have R0A := hide r0A
  have R0B := hide r0B
  clear r0A r0B
  go_enter Try.func8, Try.ntmps8
  go_upto_region 4 with fail
  generalize (w.alloc _).alloc _ = W0 at *
  go_wp2_with fail
  refine (typeOf_any _ zs hB W0 (hI.below (hb0.mono hn))).mono ?_
  have htb := getAt2_bd hB 8
  obtain ⟨t, HT⟩ : ∃ t, Hid (getAt2 zs 8 = t) := ⟨_, rfl⟩
  rw [HT.out] at htb ⊢
  rintro e w1 ⟨rfl, q1, hq1⟩
  have hw1 : Later w w1 := by rw [hq1]; exact below_draw hb0 q1
  have rA : w1.heap[w.heap.size]? = some (.cells #[.int .i64 0, .int .i64 0, .int .i64 0] 34 (0, 0)) := by rw [hq1]; exact R0A.out
  have rB : w1.heap[w.heap.size + 1]? = some (.cells #[.int .i64 0, .int .i64 (-1), .int .i64 (-1)] 34 (0, 0)) := by rw [hq1]; exact R0B.out
  clear hq1 R0A R0B hb0
  have RA := hide rA
  have RB' := hide rB
  clear rA rB
  by_cases c2 : 65535 < zs.length
  · have t2 : (65535 : Int) < zs.length := by omega
    have HF : Hid (lye zs = 4) := by show _ = _; unfold lye; rw [if_neg c1, if_pos c2]
    clear c2 c1
    go_upto_region 5 with fail
    refine anyR_begin (R := Later) Later.pre Later.drew 13 rfl (by kernel_rfl) (fun V1 hV1 => ?_)
    refine anyR_val Later.pre 0 rfl (by kernel_rfl) (by kernel_rfl) (by kernel_rfl) (fun _ _ _ _ h => h) rfl ?_; apply Exists.intro; refine ⟨fun v1 hv1 => ?_, ?_⟩; (· (go_simp; rfl)); simp only [Act.put, List.setIfInBounds_toArray, List.set_cons_zero, List.set_cons_succ]
    refine anyR_val Later.pre 1 rfl (by kernel_rfl) (by kernel_rfl) (by kernel_rfl) (fun _ _ _ _ h => h) rfl ?_; apply Exists.intro; refine ⟨fun v1 hv1 => ?_, ?_⟩; (· (go_simp; rfl)); simp only [Act.put, List.setIfInBounds_toArray, List.set_cons_zero, List.set_cons_succ]
    refine anyR_val Later.pre 2 rfl (by kernel_rfl) (by kernel_rfl) (by kernel_rfl) (fun _ _ _ _ h => h) rfl ?_; apply Exists.intro; refine ⟨fun v1 hv1 => ?_, ?_⟩; (· (go_simp; rfl)); simp only [Act.put, List.setIfInBounds_toArray, List.set_cons_zero, List.set_cons_succ]
    refine anyR_val Later.pre 3 rfl (by kernel_rfl) (by kernel_rfl) (by kernel_rfl) (fun _ _ _ _ h => h) rfl ?_; apply Exists.intro; refine ⟨fun v1 hv1 => ?_, ?_⟩; (· (go_simp; rfl)); simp only [Act.put, List.setIfInBounds_toArray, List.set_cons_zero, List.set_cons_succ]
    refine anyR_skipG Later.pre 4 rfl (by kernel_rfl) (by kernel_rfl) (by kernel_rfl) (fun _ _ _ _ h => h) (by rfl) ?_; simp only [Act.put, List.setIfInBounds_toArray, List.set_cons_zero, List.set_cons_succ]
    refine anyR_skipG Later.pre 5 rfl (by kernel_rfl) (by kernel_rfl) (by kernel_rfl) (fun _ _ _ _ h => h) (by rfl) ?_; simp only [Act.put, List.setIfInBounds_toArray, List.set_cons_zero, List.set_cons_succ]
    refine anyR_skipG Later.pre 6 rfl (by kernel_rfl) (by kernel_rfl) (by kernel_rfl) (fun _ _ _ _ h => h) (by rfl) ?_; simp only [Act.put, List.setIfInBounds_toArray, List.set_cons_zero, List.set_cons_succ]
    refine anyR_skipG Later.pre 7 rfl (by kernel_rfl) (by kernel_rfl) (by kernel_rfl) (fun _ _ _ _ h => h) (by rfl) ?_; simp only [Act.put, List.setIfInBounds_toArray, List.set_cons_zero, List.set_cons_succ]
    refine anyR_skipG Later.pre 8 rfl (by kernel_rfl) (by kernel_rfl) (by kernel_rfl) (fun _ _ _ _ h => h) (by rfl) ?_; simp only [Act.put, List.setIfInBounds_toArray, List.set_cons_zero, List.set_cons_succ]
    refine anyR_skipG Later.pre 9 rfl (by kernel_rfl) (by kernel_rfl) (by kernel_rfl) (fun _ _ _ _ h => h) (by rfl) ?_; simp only [Act.put, List.setIfInBounds_toArray, List.set_cons_zero, List.set_cons_succ]
    refine anyR_skipG Later.pre 10 rfl (by kernel_rfl) (by kernel_rfl) (by kernel_rfl) (fun _ _ _ _ h => h) (by rfl) ?_; simp only [Act.put, List.setIfInBounds_toArray, List.set_cons_zero, List.set_cons_succ]
    refine anyR_skipG Later.pre 11 rfl (by kernel_rfl) (by kernel_rfl) (by kernel_rfl) (fun _ _ _ _ h => h) (by rfl) ?_; simp only [Act.put, List.setIfInBounds_toArray, List.set_cons_zero, List.set_cons_succ]
    refine anyR_val Later.pre 12 rfl (by kernel_rfl) (by kernel_rfl) (by kernel_rfl) (fun _ _ _ _ h => h) rfl ?_; apply Exists.intro; refine ⟨fun v1 hv1 => ?_, ?_⟩; (· (go_simp; rfl)); simp only [Act.put, List.setIfInBounds_toArray, List.set_cons_zero, List.set_cons_succ]
    refine anyR_done (by kernel_rfl) (fun VD hVD => ?_)
    have l2 : Later w1 VD := hV1.trans hVD
    have hvD : Below w.heap.size w VD := hw1.trans l2
    have rA := (l2.block w.heap.size (Array.getElem?_eq_some_iff.1 RA.out).1).trans RA.out
    have rB := (l2.block (w.heap.size + 1) (Array.getElem?_eq_some_iff.1 RB'.out).1).trans RB'.out
    have CA := block_cell rA
    have FA := block_frozen rA
    have CB := block_cell rB
    go_wp2_with fail
    generalize hV : (((VD.setCell ⟨w.heap.size, 0, none⟩ _).setCell ⟨w.heap.size, 1, none⟩ _).setCell ⟨w.heap.size, 2, none⟩ _) = V8; have hV9 : V8 = putRow VD w.heap.size 0 [.int .i64 0, .int .i64 (-1), .int .i64 (-1)] := hV.symm; have hb8 : But (fun b => b = w.heap.size) VD V8 := by { rw [hV9]; exact putRow_but (E := fun b => b = w.heap.size) (n := w.heap.size) rfl _ _ _ _ (But.refl _ _) }; have p8 := putRow_all [.int .i64 0, .int .i64 (-1), .int .i64 (-1)] rA rfl; rw [← hV9] at p8; clear hV hV9; have P8 := block_cell p8; have hw8 : Below w.heap.size w V8 := (hvD).trans (hb8.below (hvD).size (fun k h e => by omega)); exact bodyPost_ret (v := .tuple #[lyv 0 (-1) (-1), .int .i64 4]) (by simp [results, Try.results8, go_sem, P8]) rfl ⟨by rw [lyv_no HF.out (by decide), HF.out], hw8⟩
  have t2 : ¬ (65535 : Int) < zs.length := by omega
  obtain ⟨b, off, cp, e0, hlc, hmc, hbb, hcs⟩ := hI.cells (by omega)
  have hcl := e0
  simp at hcl
  obtain ⟨rfl, rfl⟩ := hcl
  clear e0
  have HK : Hid (hdk zs = eqs [zs[0]?.getD 0, zs[1]?.getD 0, zs[2]?.getD 0, zs[3]?.getD 0, zs[4]?.getD 0, zs[5]?.getD 0, zs[6]?.getD 0, zs[7]?.getD 0, zs[8]?.getD 0, zs[9]?.getD 0, zs[10]?.getD 0, zs[11]?.getD 0] [(zs.length : Int) / 256, (zs.length : Int) % 256, 0, 1, 26, 43, 60, 77, t / 256, t % 256, 0, 0]) := by show _ = _; unfold hdk; rw [HT.out]
  have hd : ∀ j, j < zs.length → ∀ v, Later w1 v → v.cell? ⟨b, off + j, none⟩ = some (.int .u8 (zs[j]?.getD 0)) := fun j hj v hv => (hw1.trans hv).cell (hcs j hj)
  have d0 := hd 0 (by omega)
  have d1 := hd 1 (by omega)
  have d2 := hd 2 (by omega)
  have d3 := hd 3 (by omega)
  have d4 := hd 4 (by omega)
  have d5 := hd 5 (by omega)
  have d6 := hd 6 (by omega)
  have d7 := hd 7 (by omega)
  have d8 := hd 8 (by omega)
  have d9 := hd 9 (by omega)
  have d10 := hd 10 (by omega)
  have d11 := hd 11 (by omega)
  simp only [Nat.add_zero] at d0
  generalize zs[0]?.getD 0 = z0 at *
  generalize zs[1]?.getD 0 = z1 at *
  generalize zs[2]?.getD 0 = z2 at *
  generalize zs[3]?.getD 0 = z3 at *
  generalize zs[4]?.getD 0 = z4 at *
  generalize zs[5]?.getD 0 = z5 at *
  generalize zs[6]?.getD 0 = z6 at *
  generalize zs[7]?.getD 0 = z7 at *
  generalize zs[8]?.getD 0 = z8 at *
  generalize zs[9]?.getD 0 = z9 at *
  generalize zs[10]?.getD 0 = zA at *
  generalize zs[11]?.getD 0 = zB at *
  have HLD : Hid (∀ v, Later w1 v → (v.cell? ⟨b, off, none⟩ = some (.int .u8 z0) ∧ v.cell? ⟨b, off + 1, none⟩ = some (.int .u8 z1) ∧ v.cell? ⟨b, off + 2, none⟩ = some (.int .u8 z2) ∧ v.cell? ⟨b, off + 3, none⟩ = some (.int .u8 z3) ∧ v.cell? ⟨b, off + 4, none⟩ = some (.int .u8 z4) ∧ v.cell? ⟨b, off + 5, none⟩ = some (.int .u8 z5)) ∧ (v.cell? ⟨b, off + 6, none⟩ = some (.int .u8 z6) ∧ v.cell? ⟨b, off + 7, none⟩ = some (.int .u8 z7) ∧ v.cell? ⟨b, off + 8, none⟩ = some (.int .u8 z8) ∧ v.cell? ⟨b, off + 9, none⟩ = some (.int .u8 z9) ∧ v.cell? ⟨b, off + 10, none⟩ = some (.int .u8 zA) ∧ v.cell? ⟨b, off + 11, none⟩ = some (.int .u8 zB))) := fun v hv => ⟨⟨d0 v hv, d1 v hv, d2 v hv, d3 v hv, d4 v hv, d5 v hv⟩, d6 v hv, d7 v hv, d8 v hv, d9 v hv, d10 v hv, d11 v hv⟩
  have HN : Hid (0 ≤ (zs.length : Int) ∧ (zs.length : Int) ≤ 65535) := ⟨by omega, by omega⟩
  have HTB := hide htb
  clear d0 d1 d2 d3 d4 d5 d6 d7 d8 d9 d10 d11 hd hcs htb
  have har : ∀ v : World, _ := fun v => run_arrayAt (P := Try.prog) (w := v) 42 5 12 (some ⟨b, off, none⟩) zs.length cap Try.underlying42 (by omega)
  have hq : ∀ v : World, _ := fun v => equal12 z0 z1 z2 z3 z4 z5 z6 z7 z8 z9 zA zB ((zs.length : Int) / 256) ((zs.length : Int) % 256) 0 1 26 43 60 77 (t / 256) (t % 256) 0 0 v
  simp only [← HK.out] at hq
  go_upto_region 5 with fail
  refine anyR_begin (R := Later) Later.pre Later.drew 13 rfl (by kernel_rfl) (fun V1 hV1 => ?_)
  refine anyR_val Later.pre 0 rfl (by kernel_rfl) (by kernel_rfl) (by kernel_rfl) (fun _ _ _ _ h => h) rfl ?_; apply Exists.intro; refine ⟨fun v1 hv1 => ?_, ?_⟩; (· (go_simp; rfl)); simp only [Act.put, List.setIfInBounds_toArray, List.set_cons_zero, List.set_cons_succ]
  refine anyR_val Later.pre 1 rfl (by kernel_rfl) (by kernel_rfl) (by kernel_rfl) (fun _ _ _ _ h => h) rfl ?_; apply Exists.intro; refine ⟨fun v1 hv1 => ?_, ?_⟩; (· (go_simp; rfl)); simp only [Act.put, List.setIfInBounds_toArray, List.set_cons_zero, List.set_cons_succ]
  refine anyR_val Later.pre 2 rfl (by kernel_rfl) (by kernel_rfl) (by kernel_rfl) (fun _ _ _ _ h => h) rfl ?_; apply Exists.intro; refine ⟨fun v1 hv1 => ?_, ?_⟩; (· (go_simp; rfl)); simp only [Act.put, List.setIfInBounds_toArray, List.set_cons_zero, List.set_cons_succ]
  rw [show decide ((65535 : Int) < (zs.length : Int)) = false from by simp; omega]
  refine anyR_val Later.pre 3 rfl (by kernel_rfl) (by kernel_rfl) (by kernel_rfl) (fun _ _ _ _ h => h) rfl ?_; apply Exists.intro; refine ⟨fun v1 hv1 => ?_, ?_⟩; (· (go_simp; rfl)); simp only [Act.put, List.setIfInBounds_toArray, List.set_cons_zero, List.set_cons_succ]
  refine anyR_valG Later.pre 4 rfl (by kernel_rfl) (by kernel_rfl) (by kernel_rfl) (fun _ _ _ _ h => h) (by rfl) ?_; apply Exists.intro; refine ⟨fun v1 hv1 => ?_, ?_⟩; (· (go_simp; rfl)); simp only [Act.put, List.setIfInBounds_toArray, List.set_cons_zero, List.set_cons_succ]
  refine anyR_valG Later.pre 5 rfl (by kernel_rfl) (by kernel_rfl) (by kernel_rfl) (fun _ _ _ _ h => h) (by rfl) ?_; apply Exists.intro; refine ⟨fun v1 hv1 => ?_, ?_⟩; (· (go_simp; rfl)); simp only [Act.put, List.setIfInBounds_toArray, List.set_cons_zero, List.set_cons_succ]
  refine anyR_takeG Later.pre 6 (a12 z0 z1 z2 z3 z4 z5 z6 z7 z8 z9 zA zB) rfl (by kernel_rfl) (by kernel_rfl) (by kernel_rfl) (fun _ _ _ h => h) (by rfl) (fun v1 hv1 => goes_val Later.pre ?_) ?_
  · obtain ⟨⟨d0, d1, d2, d3, d4, d5⟩, d6, d7, d8, d9, d10, d11⟩ := HLD.out v1 (hV1.trans hv1)
    go_simp
  simp only [Act.put, List.setIfInBounds_toArray, List.set_cons_zero, List.set_cons_succ]
  refine anyR_valG Later.pre 7 rfl (by kernel_rfl) (by kernel_rfl) (by kernel_rfl) (fun _ _ _ _ h => h) (by rfl) ?_; apply Exists.intro; refine ⟨fun v1 hv1 => ?_, ?_⟩; (· (go_simp; rfl)); simp only [Act.put, List.setIfInBounds_toArray, List.set_cons_zero, List.set_cons_succ]
  refine anyR_valG Later.pre 8 rfl (by kernel_rfl) (by kernel_rfl) (by kernel_rfl) (fun _ _ _ _ h => h) (by rfl) ?_; apply Exists.intro; refine ⟨fun v1 hv1 => ?_, ?_⟩; (· (go_simp; rfl)); simp only [Act.put, List.setIfInBounds_toArray, List.set_cons_zero, List.set_cons_succ]
  refine anyR_valG Later.pre 9 rfl (by kernel_rfl) (by kernel_rfl) (by kernel_rfl) (fun _ _ _ _ h => h) (by rfl) ?_; apply Exists.intro; refine ⟨fun v1 hv1 => ?_, ?_⟩; (· (go_simp; rfl)); simp only [Act.put, List.setIfInBounds_toArray, List.set_cons_zero, List.set_cons_succ]
  refine anyR_takeG Later.pre 10 (a12 ((zs.length : Int) / 256) ((zs.length : Int) % 256) 0 1 26 43 60 77 (t / 256) (t % 256) 0 0) rfl (by kernel_rfl) (by kernel_rfl) (by kernel_rfl) (fun _ _ _ h => h) (by rfl) (fun v1 hv1 => goes_call 12 #[.int .i64 (zs.length : Int), .int .i64 t] (by go_simp) (headOf_any _ t HN.out HTB.out v1)) ?_
  simp only [Act.put, List.setIfInBounds_toArray, List.set_cons_zero, List.set_cons_succ]
  refine anyR_valG Later.pre 11 rfl (by kernel_rfl) (by kernel_rfl) (by kernel_rfl) (fun _ _ _ _ h => h) (by rfl) ?_; apply Exists.intro; refine ⟨fun v1 hv1 => ?_, ?_⟩; (· (go_simp; rfl)); simp only [Act.put, List.setIfInBounds_toArray, List.set_cons_zero, List.set_cons_succ]
  refine anyR_val Later.pre 12 rfl (by kernel_rfl) (by kernel_rfl) (by kernel_rfl) (fun _ _ _ _ h => h) rfl ?_; apply Exists.intro; refine ⟨fun v1 hv1 => ?_, ?_⟩; (· (go_simp; rfl)); simp only [Act.put, List.setIfInBounds_toArray, List.set_cons_zero, List.set_cons_succ]
  refine anyR_done (by kernel_rfl) (fun VD hVD => ?_)
  have l2 : Later w1 VD := hV1.trans hVD
  have hvD : Below w.heap.size w VD := hw1.trans l2
  have rA := (l2.block w.heap.size (Array.getElem?_eq_some_iff.1 RA.out).1).trans RA.out
  have rB := (l2.block (w.heap.size + 1) (Array.getElem?_eq_some_iff.1 RB'.out).1).trans RB'.out
  have hsV : w.heap.size + 1 < VD.heap.size := (Array.getElem?_eq_some_iff.1 rB).1
  clear har hq HLD HK RA RB' l2 hV1 hVD
  obtain ⟨k, HKK⟩ : ∃ k, Hid (hdk zs = k) := ⟨_, rfl⟩
  rw [HKK.out]
  cases k with
  | false =>
    have HF : Hid (lye zs = 4) := by show _ = _; unfold lye; rw [if_neg c1, if_neg c2, if_pos HKK.out]
    have CA := block_cell rA
    have FA := block_frozen rA
    have CB := block_cell rB
    go_wp2_with fail
    generalize hV : (((VD.setCell ⟨w.heap.size, 0, none⟩ _).setCell ⟨w.heap.size, 1, none⟩ _).setCell ⟨w.heap.size, 2, none⟩ _) = V8; have hV9 : V8 = putRow VD w.heap.size 0 [.int .i64 0, .int .i64 (-1), .int .i64 (-1)] := hV.symm; have hb8 : But (fun b => b = w.heap.size) VD V8 := by { rw [hV9]; exact putRow_but (E := fun b => b = w.heap.size) (n := w.heap.size) rfl _ _ _ _ (But.refl _ _) }; have p8 := putRow_all [.int .i64 0, .int .i64 (-1), .int .i64 (-1)] rA rfl; rw [← hV9] at p8; clear hV hV9; have P8 := block_cell p8; have hw8 : Below w.heap.size w V8 := (hvD).trans (hb8.below (hvD).size (fun k h e => by omega)); exact bodyPost_ret (v := .tuple #[lyv 0 (-1) (-1), .int .i64 4]) (by simp [results, Try.results8, go_sem, P8]) rfl ⟨by rw [lyv_no HF.out (by decide), HF.out], hw8⟩
  | true =>
    have HF0 : Hid (lye zs = if lkn t = false then 12 else if (zs.length : Int) ≠ lsz t then 4 else 0) := by show _ = _; unfold lye; rw [if_neg c1, if_neg c2, if_neg (by rw [HKK.out]; simp), HT.out]
    go_wp2_with fail
    refine (layouts_any VD).mono ?_
    rintro e w3 ⟨bm, rfl, hb3, hm⟩
    have hlk := look15b hm t
    have hlk' : (Instr.lookup 35 (.map (some bm)) (.int .i64 t) true).run Try.prog w3 = .ok (.tuple #[.agg #[.int .i64 (lsz t), .int .i64 (lca t), .int .i64 (lpe t)], .bool (lkn t)]) w3 := hlk
    clear hlk hm
    have HY : Hid (lye zs = 0 → lyv (lyS zs) (lyC zs) (lyP zs) = lyv (lsz t) (lca t) (lpe t)) := fun h => by rw [lyv_yes h, HT.out]
    generalize lsz t = s at *
    generalize lca t = c at *
    generalize lpe t = p at *
    obtain ⟨kn, HKN⟩ : ∃ k, Hid (lkn t = k) := ⟨_, rfl⟩
    rw [HKN.out] at hlk' HF0
    have h3 : Below w.heap.size w w3 := hvD.trans (hb3.mono hvD.size)
    have rA3 := (hb3.block w.heap.size (by omega)).trans rA
    have rB3 := (hb3.block (w.heap.size + 1) hsV).trans rB
    have hs3 : w.heap.size + 1 < w3.heap.size := (Array.getElem?_eq_some_iff.1 rB3).1
    have hA := (Below.refl w3.heap.size w3).alloc (Nat.le_refl _) (.cells #[.int .i64 s, .int .i64 c, .int .i64 p] 34)
    have rC := heap_alloc_new w3 (.cells #[.int .i64 s, .int .i64 c, .int .i64 p] 34)
    have hw4 : Below w.heap.size w (w3.alloc (.cells #[.int .i64 s, .int .i64 c, .int .i64 p] 34)) := h3.trans (hA.mono h3.size)
    have rA4 := (hA.block w.heap.size (by omega)).trans rA3
    have rB4 := (hA.block (w.heap.size + 1) hs3).trans rB3
    have R4A := hide rA4
    have R4B := hide rB4
    have R4C := hide rC
    clear rA rB rA3 rB3 rC hA h3 hb3 hvD rA4 rB4
    go_upto_region 8 with fail
    generalize w3.alloc _ = w4 at *
    have rA4 := R4A.out
    have rB4 := R4B.out
    have rC4 := R4C.out
    have CA := block_cell rA4
    have FA := block_frozen rA4
    cases kn with
    | false =>
      have HF : Hid (lye zs = 12) := by show _ = _; rw [HF0.out, if_pos rfl]
      have CB := block_cell rB4
      go_wp2_with fail
      generalize hV : (((w4.setCell ⟨w.heap.size, 0, none⟩ _).setCell ⟨w.heap.size, 1, none⟩ _).setCell ⟨w.heap.size, 2, none⟩ _) = V8; have hV9 : V8 = putRow w4 w.heap.size 0 [.int .i64 0, .int .i64 (-1), .int .i64 (-1)] := hV.symm; have hb8 : But (fun b => b = w.heap.size) w4 V8 := by { rw [hV9]; exact putRow_but (E := fun b => b = w.heap.size) (n := w.heap.size) rfl _ _ _ _ (But.refl _ _) }; have p8 := putRow_all [.int .i64 0, .int .i64 (-1), .int .i64 (-1)] rA4 rfl; rw [← hV9] at p8; clear hV hV9; have P8 := block_cell p8; have hw8 : Below w.heap.size w V8 := (hw4).trans (hb8.below (hw4).size (fun k h e => by omega)); exact bodyPost_ret (v := .tuple #[lyv 0 (-1) (-1), .int .i64 12]) (by simp [results, Try.results8, go_sem, P8]) rfl ⟨by rw [lyv_no HF.out (by decide), HF.out], hw8⟩
    | true =>
      by_cases c5 : (zs.length : Int) = s
      · have HF : Hid (lye zs = 0) := by show _ = _; rw [HF0.out, if_neg (by simp), if_neg (by simp [c5])]
        have t5 : ((zs.length : Int) != s) = false := by simp [c5]
        have CC := block_cell rC4
        clear c5
        go_wp2_with fail
        generalize hV : (((w4.setCell ⟨w.heap.size, 0, none⟩ _).setCell ⟨w.heap.size, 1, none⟩ _).setCell ⟨w.heap.size, 2, none⟩ _) = V8
        have hV9 : V8 = putRow w4 w.heap.size 0 [.int .i64 s, .int .i64 c, .int .i64 p] := hV.symm
        have hb8 : But (fun b => b = w.heap.size) w4 V8 := by rw [hV9]; exact putRow_but (E := fun b => b = w.heap.size) (n := w.heap.size) rfl _ _ _ _ (But.refl _ _)
        have p8 := putRow_all [.int .i64 s, .int .i64 c, .int .i64 p] rA4 rfl
        rw [← hV9] at p8
        clear hV hV9
        have P8 := block_cell p8
        have hw8 : Below w.heap.size w V8 := hw4.trans (hb8.below hw4.size (fun k h e => by omega))
        exact bodyPost_ret (v := .tuple #[lyv s c p, .int .i64 0]) (by simp [results, Try.results8, go_sem, P8]) rfl ⟨by rw [HY.out HF.out, HF.out], hw8⟩
      · have HF : Hid (lye zs = 4) := by show _ = _; rw [HF0.out, if_neg (by simp), if_pos c5]
        have t5 : ((zs.length : Int) != s) = true := by simp [c5]
        have CC := block_cell rC4
        have CB := block_cell rB4
        clear c5
        go_wp2_with fail
        generalize hV : (((w4.setCell ⟨w.heap.size, 0, none⟩ _).setCell ⟨w.heap.size, 1, none⟩ _).setCell ⟨w.heap.size, 2, none⟩ _) = V8; have hV9 : V8 = putRow w4 w.heap.size 0 [.int .i64 0, .int .i64 (-1), .int .i64 (-1)] := hV.symm; have hb8 : But (fun b => b = w.heap.size) w4 V8 := by { rw [hV9]; exact putRow_but (E := fun b => b = w.heap.size) (n := w.heap.size) rfl _ _ _ _ (But.refl _ _) }; have p8 := putRow_all [.int .i64 0, .int .i64 (-1), .int .i64 (-1)] rA4 rfl; rw [← hV9] at p8; clear hV hV9; have P8 := block_cell p8; have hw8 : Below w.heap.size w V8 := (hw4).trans (hb8.below (hw4).size (fun k h e => by omega)); exact bodyPost_ret (v := .tuple #[lyv 0 (-1) (-1), .int .i64 4]) (by simp [results, Try.results8, go_sem, P8]) rfl ⟨by rw [lyv_no HF.out (by decide), HF.out], hw8⟩
end Go.Proofs.Ytochdlmggbhmfab
