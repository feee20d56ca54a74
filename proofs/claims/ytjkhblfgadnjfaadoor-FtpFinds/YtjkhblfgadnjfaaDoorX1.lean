/- Several texts in one. -/
import Derived.Test.YtjkhblfgadnjfaaDoorRs
import Derived.Test.YtjkhblfgadnjfaaDoorX2
import Derived.Test.YtjkhblfgadnjfaaDoorRt
import Derived.Test.YtjkhblfgadnjfaaDoorRk
/- A guarded operation that is the only one to come next. -/
namespace Go.Proofs.YtjkhblfgadnjfaaDoor
open Go.RowKit Go.Shelf
set_option maxRecDepth 100000
set_option linter.unusedVariables false
set_option linter.unusedSimpArgs false

section
variable {P : Program} {l : List Oper} {Q : Exit → Act → World → Prop} {fuel : Nat} {listed : Array Bool} {a : Act} {w : World} {R : World → World → Prop}
theorem anyR_oneG (i : Nat) {oi : Oper} (hi : nthOp l i = some oi) (hr : Region.ready .any l.toArray listed = [i]) (hg : Region.wanted oi (yielded l.toArray a.tmps) = true)
    (h1 : ∀ w', R w w' → oi.wp P a w' (fun a' w'' => R w' w'' ∧ wpAnyR P .any l.toArray Q R fuel (listed.setIfInBounds i true) a' w'') Q) :
    wpAnyR P .any l.toArray Q R (fuel + 1) listed a w := by
  have hi' : l.toArray[i]? = some oi := by rw [← hi, nthOp_eq]; simp
  refine ⟨fun h0 => (by rw [hr] at h0; cases h0), fun k hk w' hw' => ?_⟩
  rw [hr] at hk
  unfold wpOp
  obtain rfl : k = i := by simpa using hk
  rw [hi']; simp only [hg, if_true]; exact .inl (h1 w' hw')
end

end Go.Proofs.YtjkhblfgadnjfaaDoor

/- The document's addr, Address, line, found. -/
namespace Go.Proofs.YtjkhblfgadnjfaaDoor
open Go.RowKit Go.Shelf
set_option maxRecDepth 100000
set_option linter.unusedVariables false
set_option linter.unusedSimpArgs false

/-- Ints that are the call's own, as they are read. -/
theorem ints_cell {w : World} {base : Nat} {v : Value} {x : List Int} (h : w.ownsRow base 3 1 v x.length (intsV x)) (hx : 0 < x.length) : ∃ g cp, v = .slice (some ⟨g, 0, none⟩) x.length cp ∧ x.length ≤ cp ∧ cp ≤ maxLen ∧ g < w.heap.size ∧ ∀ j, j < x.length → w.cell? ⟨g, j, none⟩ = some (.int .i64 (x[j]?.getD 0)) := by
  obtain ⟨_, ⟨_, h⟩ | ⟨g, cap, cur, hv, _, hh, h1, h2, h3, h4⟩⟩ := h
  · omega
  refine ⟨g, cap, hv, h1, h2, (Array.getElem?_eq_some_iff.1 hh).1, fun j hj => ?_⟩
  rw [block_cell hh, ← Array.getElem?_toList]
  have h5 := congrArg (·[j]?) h4
  simp only [Nat.mul_one] at h5
  rw [List.getElem?_take, if_pos hj] at h5
  rw [h5]
  unfold intsV
  rw [List.getElem?_map, List.getElem?_eq_getElem hj]
  rfl

theorem wrapu32 (x : Int) (h : 0 ≤ x ∧ x ≤ 4294967295) : IntKind.u32.wrap x = x := by
  simp [IntKind.wrap, IntKind.bits, IntKind.signed]
  omega
theorem or_joinK (k : Nat) (x y : Int) (hx : 0 ≤ x ∧ x ≤ 4294967295) (hy : 0 ≤ y ∧ y ≤ 4294967295) (h1 : x.toNat % 2 ^ k = 0) (h2 : y.toNat < 2 ^ k) : bits .or .u32 x y = x + y := by
  rw [u32_or _ _ (by omega) (by omega) (by omega) (by omega)]
  have := nat_join k x.toNat y.toNat h1 h2
  omega
theorem addr_or (x0 x1 x2 x3 : Int) (b0 : 0 ≤ x0 ∧ x0 ≤ 255) (b1 : 0 ≤ x1 ∧ x1 ≤ 255) (b2 : 0 ≤ x2 ∧ x2 ≤ 255) (b3 : 0 ≤ x3 ∧ x3 ≤ 255) :
    bits BinOp.or IntKind.u32 (bits BinOp.or IntKind.u32 (bits BinOp.or IntKind.u32 (IntKind.u32.wrap (IntKind.u32.wrap x0 * 16777216)) (IntKind.u32.wrap (IntKind.u32.wrap x1 * 65536))) (IntKind.u32.wrap (IntKind.u32.wrap x2 * 256))) (IntKind.u32.wrap x3) = (x0 * 256 + x1) * 65536 + (x2 * 256 + x3) := by
  rw [wrapu32 x0 (by omega), wrapu32 x1 (by omega), wrapu32 x2 (by omega), wrapu32 x3 (by omega), wrapu32 (x0 * 16777216) (by omega), wrapu32 (x1 * 65536) (by omega), wrapu32 (x2 * 256) (by omega)]
  rw [or_joinK 24 (x0 * 16777216) (x1 * 65536) (by omega) (by omega) (by omega) (by omega), or_joinK 16 _ (x2 * 256) (by omega) (by omega) (by omega) (by omega), or_joinK 8 _ x3 (by omega) (by omega) (by omega) (by omega)]
  omega

set_option maxHeartbeats 4000000 in
theorem raddr_any (v : Value) (x : List Int) (hx : Mt.By x) (h4 : 4 ≤ x.length) (base : Nat) (w : World) (hO : w.ownsRow base 3 1 v x.length (intsV x)) :
    Calls Tryd.prog 44 #[v] w fun e w' => e = .returned (.int .u32 (wat4 x 0)) ∧ Later w w' := by
  obtain ⟨g, cp, rfl, hl1, hl2, hg, hcell⟩ := ints_cell hO (by omega)
  have c0 := hcell 0 (by omega)
  have c1 := hcell 1 (by omega)
  have c2 := hcell 2 (by omega)
  have c3 := hcell 3 (by omega)
  have b0 := Mt.By.at hx 0
  have b1 := Mt.By.at hx 1
  have b2 := Mt.By.at hx 2
  have b3 := Mt.By.at hx 3
  have HW : Hid (wat4 x 0 = (x[0]?.getD 0 * 256 + x[1]?.getD 0) * 65536 + (x[2]?.getD 0 * 256 + x[3]?.getD 0)) := rfl
  generalize x[0]?.getD 0 = x0 at *
  generalize x[1]?.getD 0 = x1 at *
  generalize x[2]?.getD 0 = x2 at *
  generalize x[3]?.getD 0 = x3 at *
  generalize hxl : x.length = xl at *
  have g1 : (4 : Int) ≤ (xl : Int) := by omega
  have i0 : (0 : Int) < (xl : Int) := by omega
  have n0 : 0 < xl := by omega
  have i1 : (1 : Int) < (xl : Int) := by omega
  have i2 : (2 : Int) < (xl : Int) := by omega
  have i3 : (3 : Int) < (xl : Int) := by omega
  clear hcell hO hxl
  go_enter Tryd.func44, Tryd.ntmps44
  go_upto_region 1 with fail
  refine anyR_begin (R := Later) Later.pre Later.drew 23 rfl (by kernel_rfl) (fun V0 hV0 => ?_)
  have d0 : ∀ u, Later V0 u → u.cell? ⟨g, 0, none⟩ = some (.int .i64 x0) := fun u hu => (hV0.trans hu).cell c0
  have d1 : ∀ u, Later V0 u → u.cell? ⟨g, 1, none⟩ = some (.int .i64 x1) := fun u hu => (hV0.trans hu).cell c1
  have d2 : ∀ u, Later V0 u → u.cell? ⟨g, 2, none⟩ = some (.int .i64 x2) := fun u hu => (hV0.trans hu).cell c2
  have d3 : ∀ u, Later V0 u → u.cell? ⟨g, 3, none⟩ = some (.int .i64 x3) := fun u hu => (hV0.trans hu).cell c3
  clear c0 c1 c2 c3
  refine anyR_val Later.pre 0 rfl (by kernel_rfl) (by kernel_rfl) (by kernel_rfl) (fun _ _ _ _ h => h) rfl ?_; apply Exists.intro; refine ⟨fun v1 hv1 => ?_, ?_⟩; (· (go_simp; rfl)); simp only [Act.put, List.setIfInBounds_toArray, List.set_cons_zero, List.set_cons_succ]
  refine anyR_val Later.pre 1 rfl (by kernel_rfl) (by kernel_rfl) (by kernel_rfl) (fun _ _ _ _ h => h) rfl ?_; apply Exists.intro; refine ⟨fun v1 hv1 => ?_, ?_⟩; (· (go_simp; rfl)); simp only [Act.put, List.setIfInBounds_toArray, List.set_cons_zero, List.set_cons_succ]
  refine anyR_val Later.pre 2 rfl (by kernel_rfl) (by kernel_rfl) (by kernel_rfl) (fun _ _ _ _ h => h) rfl ?_; apply Exists.intro; refine ⟨fun v1 hv1 => ?_, ?_⟩; (· (go_simp; rfl)); simp only [Act.put, List.setIfInBounds_toArray, List.set_cons_zero, List.set_cons_succ]
  refine anyR_val Later.pre 3 rfl (by kernel_rfl) (by kernel_rfl) (by kernel_rfl) (fun _ _ _ _ h => h) rfl ?_; apply Exists.intro; refine ⟨fun v1 hv1 => ?_, ?_⟩; (· (go_simp; rfl)); simp only [Act.put, List.setIfInBounds_toArray, List.set_cons_zero, List.set_cons_succ]
  refine anyR_val Later.pre 4 rfl (by kernel_rfl) (by kernel_rfl) (by kernel_rfl) (fun _ _ _ _ h => h) rfl ?_; apply Exists.intro; refine ⟨fun v1 hv1 => ?_, ?_⟩; (· (go_simp; rfl)); simp only [Act.put, List.setIfInBounds_toArray, List.set_cons_zero, List.set_cons_succ]
  refine anyR_val Later.pre 5 rfl (by kernel_rfl) (by kernel_rfl) (by kernel_rfl) (fun _ _ _ _ h => h) rfl ?_; apply Exists.intro; refine ⟨fun v1 hv1 => ?_, ?_⟩; (· (go_simp; rfl)); simp only [Act.put, List.setIfInBounds_toArray, List.set_cons_zero, List.set_cons_succ]
  refine anyR_val Later.pre 6 rfl (by kernel_rfl) (by kernel_rfl) (by kernel_rfl) (fun _ _ _ _ h => h) rfl ?_; apply Exists.intro; refine ⟨fun v1 hv1 => ?_, ?_⟩; (· (go_simp; rfl)); simp only [Act.put, List.setIfInBounds_toArray, List.set_cons_zero, List.set_cons_succ]
  refine anyR_val Later.pre 7 rfl (by kernel_rfl) (by kernel_rfl) (by kernel_rfl) (fun _ _ _ _ h => h) rfl ?_; apply Exists.intro; refine ⟨fun v1 hv1 => ?_, ?_⟩; (· (go_simp; rfl)); simp only [Act.put, List.setIfInBounds_toArray, List.set_cons_zero, List.set_cons_succ]
  refine anyR_val Later.pre 8 rfl (by kernel_rfl) (by kernel_rfl) (by kernel_rfl) (fun _ _ _ _ h => h) rfl ?_; apply Exists.intro; refine ⟨fun v1 hv1 => ?_, ?_⟩; (· (go_simp; rfl)); simp only [Act.put, List.setIfInBounds_toArray, List.set_cons_zero, List.set_cons_succ]
  refine anyR_val Later.pre 9 rfl (by kernel_rfl) (by kernel_rfl) (by kernel_rfl) (fun _ _ _ _ h => h) rfl ?_; apply Exists.intro; refine ⟨fun v1 hv1 => ?_, ?_⟩; (· (go_simp; rfl)); simp only [Act.put, List.setIfInBounds_toArray, List.set_cons_zero, List.set_cons_succ]
  refine anyR_val Later.pre 10 rfl (by kernel_rfl) (by kernel_rfl) (by kernel_rfl) (fun _ _ _ _ h => h) rfl ?_; apply Exists.intro; refine ⟨fun v1 hv1 => ?_, ?_⟩; (· (go_simp; rfl)); simp only [Act.put, List.setIfInBounds_toArray, List.set_cons_zero, List.set_cons_succ]
  refine anyR_val Later.pre 11 rfl (by kernel_rfl) (by kernel_rfl) (by kernel_rfl) (fun _ _ _ _ h => h) rfl ?_; apply Exists.intro; refine ⟨fun v1 hv1 => ?_, ?_⟩; (· (go_simp; rfl)); simp only [Act.put, List.setIfInBounds_toArray, List.set_cons_zero, List.set_cons_succ]
  refine anyR_val Later.pre 12 rfl (by kernel_rfl) (by kernel_rfl) (by kernel_rfl) (fun _ _ _ _ h => h) rfl ?_; apply Exists.intro; refine ⟨fun v1 hv1 => ?_, ?_⟩; (· (go_simp; rfl)); simp only [Act.put, List.setIfInBounds_toArray, List.set_cons_zero, List.set_cons_succ]
  refine anyR_val Later.pre 13 rfl (by kernel_rfl) (by kernel_rfl) (by kernel_rfl) (fun _ _ _ _ h => h) rfl ?_; apply Exists.intro; refine ⟨fun v1 hv1 => ?_, ?_⟩; (· (go_simp; rfl)); simp only [Act.put, List.setIfInBounds_toArray, List.set_cons_zero, List.set_cons_succ]
  refine anyR_val Later.pre 14 rfl (by kernel_rfl) (by kernel_rfl) (by kernel_rfl) (fun _ _ _ _ h => h) rfl ?_; apply Exists.intro; refine ⟨fun v1 hv1 => ?_, ?_⟩; (· (go_simp; rfl)); simp only [Act.put, List.setIfInBounds_toArray, List.set_cons_zero, List.set_cons_succ]
  refine anyR_val Later.pre 15 rfl (by kernel_rfl) (by kernel_rfl) (by kernel_rfl) (fun _ _ _ _ h => h) rfl ?_; apply Exists.intro; refine ⟨fun v1 hv1 => ?_, ?_⟩; (· (go_simp; rfl)); simp only [Act.put, List.setIfInBounds_toArray, List.set_cons_zero, List.set_cons_succ]
  refine anyR_val Later.pre 16 rfl (by kernel_rfl) (by kernel_rfl) (by kernel_rfl) (fun _ _ _ _ h => h) rfl ?_; apply Exists.intro; refine ⟨fun v1 hv1 => ?_, ?_⟩; (· (go_simp; rfl)); simp only [Act.put, List.setIfInBounds_toArray, List.set_cons_zero, List.set_cons_succ]
  refine anyR_val Later.pre 17 rfl (by kernel_rfl) (by kernel_rfl) (by kernel_rfl) (fun _ _ _ _ h => h) rfl ?_; apply Exists.intro; refine ⟨fun v1 hv1 => ?_, ?_⟩; (· (go_simp; rfl)); simp only [Act.put, List.setIfInBounds_toArray, List.set_cons_zero, List.set_cons_succ]
  refine anyR_val Later.pre 18 rfl (by kernel_rfl) (by kernel_rfl) (by kernel_rfl) (fun _ _ _ _ h => h) rfl ?_; apply Exists.intro; refine ⟨fun v1 hv1 => ?_, ?_⟩; (· (go_simp; rfl)); simp only [Act.put, List.setIfInBounds_toArray, List.set_cons_zero, List.set_cons_succ]
  refine anyR_val Later.pre 19 rfl (by kernel_rfl) (by kernel_rfl) (by kernel_rfl) (fun _ _ _ _ h => h) rfl ?_; apply Exists.intro; refine ⟨fun v1 hv1 => ?_, ?_⟩; (· (go_simp; rfl)); simp only [Act.put, List.setIfInBounds_toArray, List.set_cons_zero, List.set_cons_succ]
  refine anyR_val Later.pre 20 rfl (by kernel_rfl) (by kernel_rfl) (by kernel_rfl) (fun _ _ _ _ h => h) rfl ?_; apply Exists.intro; refine ⟨fun v1 hv1 => ?_, ?_⟩; (· (go_simp; rfl)); simp only [Act.put, List.setIfInBounds_toArray, List.set_cons_zero, List.set_cons_succ]
  refine anyR_val Later.pre 21 rfl (by kernel_rfl) (by kernel_rfl) (by kernel_rfl) (fun _ _ _ _ h => h) rfl ?_; apply Exists.intro; refine ⟨fun v1 hv1 => ?_, ?_⟩; (· (go_simp; rfl)); simp only [Act.put, List.setIfInBounds_toArray, List.set_cons_zero, List.set_cons_succ]
  refine anyR_val Later.pre 22 rfl (by kernel_rfl) (by kernel_rfl) (by kernel_rfl) (fun _ _ _ _ h => h) rfl ?_; apply Exists.intro; refine ⟨fun v1 hv1 => ?_, ?_⟩; (· (go_simp; rfl)); simp only [Act.put, List.setIfInBounds_toArray, List.set_cons_zero, List.set_cons_succ]
  refine anyR_done (by kernel_rfl) (fun V9 hV9 => ?_)
  go_wp2_with fail
  go_ret
  refine ⟨?_, hV0.trans hV9⟩
  rw [HW.out, ← addr_or x0 x1 x2 x3 b0 b1 b2 b3]
  rfl

/-- What the document's Address answers. -/
def AdQ (o : Option (List Int × Nat)) (p : Nat) (w w' : World) (e : Ending) : Prop := Later w w' ∧ ((o = none ∧ e = .returned (.tuple #[.int .u32 0, .int .i64 (p : Int), .bool false])) ∨ ∃ x q, o = some (x, q) ∧ e = .returned (.tuple #[.int .u32 (wat4 x 0), .int .i64 (q : Int), .bool true]))

set_option maxHeartbeats 4000000 in
theorem rAddress_any (bb off cp : Nat) (zs : List Int) (hz : Mt.By zs) (p : Nat) (w : World) (hI : Rd w.heap.size w (.slice (some ⟨bb, off, none⟩) zs.length cp) zs) (hl : zs.length ≤ 1000) (hp : p ≤ zs.length) :
    Calls Tryd.prog 27 #[.slice (some ⟨bb, off, none⟩) zs.length cp, .int .i64 (p : Int)] w fun e w' => AdQ (rowF zs tDot 4 0 p) p w w' e := by
  have HN := hide (rnumbers_any bb off cp zs hz p 4 46 (by decide) w hI hl hp (by omega))
  have HB := hide (rowF_by zs tDot 4 0 p)
  have HLn := hide (rowF_len zs tDot 4 0 p)
  rw [show (⟨#[46]⟩ : ByteArray) = tDot from rfl] at HN
  generalize rowF zs tDot 4 0 p = o at *
  clear hI hz
  go_enter Tryd.func27, Tryd.ntmps27
  go_wp2_with fail
  refine HN.out.mono ?_
  rintro e w1 ⟨l1, ⟨rfl, q, rfl⟩ | ⟨x, q, v, rfl, rfl, hO⟩⟩
  · go_wp2_with fail
    exact bodyPost_ret (v := .tuple #[.int .u32 0, .int .i64 (p : Int), .bool false]) (by simp [results, Tryd.results27, go_sem]) rfl ⟨l1, .inl ⟨rfl, rfl⟩⟩
  · have HA := hide (raddr_any v x (HB.out (x, q) rfl) (by have := HLn.out (x, q) rfl; simp only at this; omega) _ w1 hO)
    clear hO
    go_wp2_with fail
    refine HA.out.mono ?_
    rintro e w2 ⟨rfl, l2⟩
    go_wp2_with fail
    exact bodyPost_ret (v := .tuple #[.int .u32 (wat4 x 0), .int .i64 (q : Int), .bool true]) (by simp [results, Tryd.results27, go_sem]) rfl ⟨l1.trans l2, .inr ⟨x, q, rfl, rfl⟩⟩

/-- Whether the document holds bytes for a line. -/
def FC31 (k st en ad pt : Int) : Obj := .cells #[.int .i64 k, .int .i64 st, .int .i64 en, .int .u32 ad, .int .u16 pt] 31

set_option maxHeartbeats 4000000 in
theorem rfound_any (k st en ad pt : Int) (ok : Bool) (w : World) :
    Calls Tryd.prog 26 #[.agg #[.int .i64 k, .int .i64 st, .int .i64 en, .int .u32 ad, .int .u16 pt], .bool ok] w fun e w' => e = .returned (if ok = true then fdY k st en ad pt else fdN) ∧ Later w w' := by
  go_enter Tryd.func26, Tryd.ntmps26
  cases ok with
  | false =>
    rw [if_neg (by simp)]
    go_wp2
    have l2 : Later w ((w.alloc (.cells #[.int .i64 k, .int .i64 st, .int .i64 en, .int .u32 ad, .int .u16 pt] 31)).alloc (.cells #[.int .i64 0, .int .i64 0, .int .i64 0, .int .u32 0, .int .u16 0] 31)) := (later_allocR w _).trans (later_allocR _ _)
    have P8 := block_cell (heap_alloc_new (w.alloc (.cells #[.int .i64 k, .int .i64 st, .int .i64 en, .int .u32 ad, .int .u16 pt] 31)) (.cells #[.int .i64 0, .int .i64 0, .int .i64 0, .int .u32 0, .int .u16 0] 31))
    rw [show (w.alloc (.cells #[.int .i64 k, .int .i64 st, .int .i64 en, .int .u32 ad, .int .u16 pt] 31)).heap.size = w.heap.size + 1 by simp] at P8
    exact bodyPost_ret (v := fdN) (by unfold fdN; simp [results, Tryd.results26, go_sem, P8]) rfl ⟨rfl, l2⟩
  | true =>
    rw [if_pos rfl]
    go_wp2
    have l2 : Later w ((w.alloc (.cells #[.int .i64 k, .int .i64 st, .int .i64 en, .int .u32 ad, .int .u16 pt] 31)).alloc (.cells #[.int .i64 k, .int .i64 st, .int .i64 en, .int .u32 ad, .int .u16 pt] 31)) := (later_allocR w _).trans (later_allocR _ _)
    have P8 := block_cell (heap_alloc_new (w.alloc (.cells #[.int .i64 k, .int .i64 st, .int .i64 en, .int .u32 ad, .int .u16 pt] 31)) (.cells #[.int .i64 k, .int .i64 st, .int .i64 en, .int .u32 ad, .int .u16 pt] 31))
    rw [show (w.alloc (.cells #[.int .i64 k, .int .i64 st, .int .i64 en, .int .u32 ad, .int .u16 pt] 31)).heap.size = w.heap.size + 1 by simp] at P8
    exact bodyPost_ret (v := fdY k st en ad pt) (by unfold fdY; simp [results, Tryd.results26, go_sem, P8]) rfl ⟨rfl, l2⟩

set_option maxHeartbeats 4000000 in
theorem rline_any (sv : Value) (zs : List Int) (hz : Mt.By zs) (w : World) (hI : Rd w.heap.size w sv zs) :
    Calls Tryd.prog 23 #[sv] w fun e w' => e = .returned (.bool (oneL zs)) ∧ w' = w := by
  obtain ⟨a, cap, rfl, hl1, hm1⟩ := hI.slice
  have g0 : (zs.length : Int) ≤ 9223372036854775807 := by omega
  by_cases h2 : zs.length < 2
  · have HO : Hid (oneL zs = false) := by
      show _ = _
      cases h : oneL zs with
      | false => rfl
      | true => have := oneL_len h; omega
    have g1 : (zs.length : Int) < 2 := by omega
    go_enter Tryd.func23, Tryd.ntmps23
    go_wp2_with fail
    go_ret
    exact ⟨by rw [HO.out]; rfl, rfl⟩
  by_cases h128 : 128 < zs.length
  · have HO : Hid (oneL zs = false) := by
      show _ = _
      cases h : oneL zs with
      | false => rfl
      | true => have := oneL_len h; omega
    have g1 : ¬ (zs.length : Int) < 2 := by omega
    have g2 : (128 : Int) < (zs.length : Int) := by omega
    go_enter Tryd.func23, Tryd.ntmps23
    go_wp2_with fail
    go_ret
    exact ⟨by rw [HO.out]; rfl, rfl⟩
  have g1 : ¬ (zs.length : Int) < 2 := by omega
  have g2 : ¬ (128 : Int) < (zs.length : Int) := by omega
  obtain ⟨bb, off, cp, he, _, _, _, hcell⟩ := hI.cells (by omega)
  obtain ⟨rfl, rfl⟩ : a = some ⟨bb, off, none⟩ ∧ cap = cp := by injection he with h1 h2 h3; exact ⟨h1, h3⟩
  clear he
  obtain ⟨d, hd⟩ : ∃ d, zs.length = d + 2 := ⟨zs.length - 2, by omega⟩
  have c1 := hcell d (by omega)
  have c2 := hcell (d + 1) (by omega)
  have b1 := Mt.By.at hz d
  have b2 := Mt.By.at hz (d + 1)
  have e1 : (zs.length : Int) - 2 = (d : Int) := by omega
  have e2 : (zs.length : Int) - 1 = ((d + 1 : Nat) : Int) := by omega
  have HC := hide hcell
  have HZ := hide hz
  have hE : endB zs [13, 10] = (decide (zs[d]?.getD 0 = 13) && decide (zs[d + 1]?.getD 0 = 10)) := by
    unfold endB
    have e3 : decide (([13, 10] : List Int).length ≤ zs.length) = true := by simp; omega
    have e4 : zs.drop (zs.length - ([13, 10] : List Int).length) = [zs[d]?.getD 0, zs[d + 1]?.getD 0] := by
      show zs.drop (zs.length - 2) = _
      rw [hd, show d + 2 - 2 = d by omega, List.drop_eq_getElem_cons (by omega : d < zs.length), List.drop_eq_getElem_cons (by omega : d + 1 < zs.length), List.drop_of_length_le (by omega), List.getElem?_eq_getElem (by omega), List.getElem?_eq_getElem (by omega)]
      rfl
    rw [e3, e4]
    simp
  have HO : Hid (oneL zs = (decide (zs[d]?.getD 0 = 13) && decide (zs[d + 1]?.getD 0 = 10) && !(crl (zs.take d)))) := by
    show _ = _
    unfold oneL
    rw [hE, show decide (zs.length ≤ 128) = true by simp; omega, hd]
    simp [Bool.and_assoc]
  clear hcell hI hE hz
  generalize zs[d]?.getD 0 = z1 at *
  generalize zs[d + 1]?.getD 0 = z2 at *
  go_enter Tryd.func23, Tryd.ntmps23
  have gd : (d : Int) < (zs.length : Int) := by omega
  have gd2 : ((d + 1 : Nat) : Int) < (zs.length : Int) := by omega
  by_cases h13 : z1 = 13
  case neg =>
    have hb1 : (z1 != 13) = true := by simpa using h13
    have HO2 : Hid (oneL zs = false) := by show _ = _; rw [HO.out]; simp [h13]
    clear h13
    go_wp2_with fail
    go_ret
    exact ⟨by rw [HO2.out]; rfl, rfl⟩
  subst h13
  by_cases h10 : z2 = 10
  case neg =>
    have hb1 : (z2 != 10) = true := by simpa using h10
    have HO2 : Hid (oneL zs = false) := by show _ = _; rw [HO.out]; simp [h10]
    clear h10
    go_wp2_with fail
    go_ret
    exact ⟨by rw [HO2.out]; rfl, rfl⟩
  subst h10
  have HO3 : Hid (oneL zs = !(crl (zs.take d))) := by show _ = _; rw [HO.out]; simp
  clear HO
  go_wp2_with fail
  go_loopw [4] (fun iv wr => ∃ k : Nat, k ≤ d ∧ iv = .int .i64 (k : Int) ∧ (zs.take k).any isCr = false ∧ wr = w) (fun iv _ => d - (intOf iv).toNat)
  case atStart => exact ⟨0, by omega, rfl, rfl, rfl⟩
  case round =>
    obtain ⟨k, hk, rfl, hno, rfl⟩ := hrel
    have HNO := hide hno
    clear hno
    by_cases hlt : k < d
    · have hlt' : (k : Int) < (d : Int) := by omega
      have hlt2 : (k : Int) < (zs.length : Int) := by omega
      have hck := HC.out k (by omega)
      have hzb := Mt.By.at HZ.out k
      have HTk : Hid ((zs.take (k + 1)).any isCr = ((zs.take k).any isCr || isCr (zs[k]?.getD 0))) := by
        show _ = _
        rw [List.take_succ_eq_append_getElem (by omega), List.any_append, List.getElem?_eq_getElem (by omega)]
        simp
      have HA : Hid (isCr (zs[k]?.getD 0) = true → crl (zs.take d) = true) := fun h => by
        unfold crl
        rw [List.any_eq_true]
        refine ⟨zs[k]?.getD 0, ?_, h⟩
        rw [List.getElem?_eq_getElem (by omega : k < zs.length)]
        exact List.mem_take_iff_getElem.2 ⟨k, by omega, rfl⟩
      generalize zs[k]?.getD 0 = c at *
      by_cases c13 : c = 13
      · have hb1 : (c == 13) = true := by simpa using c13
        have HO2 : Hid (oneL zs = false) := by show _ = _; rw [HO3.out, HA.out (by rw [c13]; rfl)]; rfl
        clear c13
        go_wp2_with fail
        go_ret
        exact ⟨by rw [HO2.out]; rfl, rfl⟩
      · have hb1 : (c == 13) = false := by simpa using c13
        by_cases c10 : c = 10
        · have hb2 : (c == 10) = true := by simpa using c10
          have HO2 : Hid (oneL zs = false) := by show _ = _; rw [HO3.out, HA.out (by rw [c10]; rfl)]; rfl
          clear c10 c13
          go_wp2_with fail
          go_ret
          exact ⟨by rw [HO2.out]; rfl, rfl⟩
        · have hb2 : (c == 10) = false := by simpa using c10
          have HF : Hid (isCr c = false) := by show _ = _; unfold isCr; rw [hb1, hb2]; rfl
          clear c10 c13
          go_wp2_with fail
          go_roundw
          case rel => exact ⟨k + 1, hlt, by go_num, by rw [HTk.out, HNO.out, HF.out]; rfl, trivial⟩
          case measure => simp [intOf]; omega
    · obtain rfl : k = d := by omega
      have HO2 : Hid (oneL zs = true) := by show _ = _; rw [HO3.out]; unfold crl; rw [HNO.out]; rfl
      go_wp2_with fail
      go_ret
      exact ⟨by rw [HO2.out]; rfl, rfl⟩
end Go.Proofs.YtjkhblfgadnjfaaDoor

/- The document's six. -/
namespace Go.Proofs.YtjkhblfgadnjfaaDoor
open Go.RowKit Go.Shelf
set_option maxRecDepth 100000
set_option linter.unusedVariables false
set_option linter.unusedSimpArgs false

theorem port_wrap (x4 x5 : Int) (b4 : 0 ≤ x4 ∧ x4 ≤ 255) (b5 : 0 ≤ x5 ∧ x5 ≤ 255) : IntKind.u16.wrap (IntKind.i64.wrap (IntKind.i64.wrap (x4 * 256) + x5)) = x4 * 256 + x5 := by
  simp [IntKind.wrap, IntKind.bits, IntKind.signed]
  omega
theorem port_wrap0 (x5 : Int) (b5 : 0 ≤ x5 ∧ x5 ≤ 255) : IntKind.u16.wrap (IntKind.i64.wrap (IntKind.i64.wrap 0 + x5)) = x5 := by
  simp [IntKind.wrap, IntKind.bits, IntKind.signed]
  omega
/-- What six numbers say, in the document's words. -/
def sxV (o : Option (List Int × Nat)) (p : Nat) (kd : Int) : Value := match o with
  | none => fdN
  | some x => if wat x.1 4 = 0 then fdN else fdY kd p x.2 (wat4 x.1 0) (wat x.1 4)

set_option maxHeartbeats 8000000 in
theorem rsix_any (bb off cp : Nat) (zs : List Int) (hz : Mt.By zs) (p : Nat) (kd : Int) (w : World) (hI : Rd w.heap.size w (.slice (some ⟨bb, off, none⟩) zs.length cp) zs) (hl : zs.length ≤ 1000) (hp : p ≤ zs.length) :
    Calls Tryd.prog 25 #[.slice (some ⟨bb, off, none⟩) zs.length cp, .int .i64 (p : Int), .int .i64 kd] w fun e w' => e = .returned (sxV (rowF zs cma 6 0 p) p kd) ∧ Later w w' := by
  have l1 := later_allocR w (.cells #[.int .i64 0, .int .i64 0, .int .i64 0, .int .u32 0, .int .u16 0] 31)
  have B1 := hide (heap_alloc_new w (.cells #[.int .i64 0, .int .i64 0, .int .i64 0, .int .u32 0, .int .u16 0] 31))
  have HN := hide (rnumbers_any bb off cp zs hz p 6 44 (by decide) _ (hI.later l1) hl hp (by omega))
  have HB := hide (rowF_by zs cma 6 0 p)
  have HLn := hide (rowF_len zs cma 6 0 p)
  rw [show (⟨#[44]⟩ : ByteArray) = cma from rfl] at HN
  obtain ⟨o, ho⟩ : ∃ o, rowF zs cma 6 0 p = o := ⟨_, rfl⟩
  rw [ho] at HN HB HLn ⊢
  obtain ⟨V, hV0⟩ : ∃ V, sxV o p kd = V := ⟨_, rfl⟩
  rw [hV0]
  have HV1 := hide hV0
  clear ho hI hz hV0
  go_enter Tryd.func25, Tryd.ntmps25
  go_upto_region 1 with fail
  generalize w.alloc _ = w1 at *
  go_wp2_with fail
  refine HN.out.mono ?_
  rintro e w2 ⟨l2, ⟨rfl, q, rfl⟩ | ⟨x, q, v, rfl, rfl, hO⟩⟩
  · have B2 := later_keep l2 B1.out
    have L2 : Later w w2 := l1.trans l2
    have HV : Hid (V = fdN) := HV1.out.symm
    clear HN
    have kR := block_cell B2
    have fR := block_frozen B2
    go_wp2_with fail
    generalize hV : (((((w2.setCell ⟨w.heap.size, 0, none⟩ _).setCell ⟨w.heap.size, 1, none⟩ _).setCell ⟨w.heap.size, 2, none⟩ _).setCell ⟨w.heap.size, 3, none⟩ _).setCell ⟨w.heap.size, 4, none⟩ _) = V8
    have hV9 : V8 = putRow w2 w.heap.size 0 [.int .i64 0, .int .i64 0, .int .i64 0, .int .u32 0, .int .u16 0] := hV.symm
    have hb8 : But (fun b => b = w.heap.size) w2 V8 := by rw [hV9]; exact putRow_but (E := fun b => b = w.heap.size) (n := w.heap.size) rfl _ _ _ _ (But.refl _ _)
    have p8 := putRow_all [.int .i64 0, .int .i64 0, .int .i64 0, .int .u32 0, .int .u16 0] B2 rfl
    rw [← hV9] at p8
    clear hV hV9 kR fR
    have P8 := block_cell p8
    have hw8 : Later w V8 := Below.trans L2 (hb8.below (Below.size L2) (fun k h e => by omega))
    exact bodyPost_ret (v := fdN) (by unfold fdN; simp [results, Tryd.results25, go_sem, P8]) rfl ⟨by rw [HV.out], hw8⟩
  · have B2 := hide (later_keep l2 B1.out)
    have L2 : Later w w2 := l1.trans l2
    have hxl : x.length = 6 := HLn.out (x, q) rfl
    have hxb : Mt.By x := HB.out (x, q) rfl
    have HADR := hide (fun W (l : Later w2 W) => raddr_any v x hxb (by omega) w1.heap.size W (ownsS_later hO l))
    obtain ⟨g, cpx, rfl, hg1, hg2, hg3, hcell⟩ := ints_cell hO (by omega)
    have HO := hide hO
    have b4 := Mt.By.at hxb 4
    have b5 := Mt.By.at hxb 5
    have HC4 := hide (hcell 4 (by omega))
    have HC5 := hide (hcell 5 (by omega))
    have HW : Hid (wat x 4 = x[4]?.getD 0 * 256 + x[5]?.getD 0) := rfl
    have HXB := hide hxb
    have HXL := hide hxl
    have hg4 : w1.heap.size ≤ g := by
      obtain ⟨_, ⟨h, _⟩ | ⟨g', cap', cur', e', h', _⟩⟩ := hO
      · cases h
      · simp at e'; omega
    have hsz1 : w.heap.size < w1.heap.size := (Array.getElem?_eq_some_iff.1 B1.out).1
    generalize hx4 : x[4]?.getD 0 = x4 at *
    generalize hx5 : x[5]?.getD 0 = x5 at *
    rw [hxl] at *
    clear HN hcell hO hxb hxl hx4 hx5
    by_cases h0 : x4 = 0 ∧ x5 = 0
    · have HV : Hid (V = fdN) := by
        show _ = _
        rw [← HV1.out]
        unfold sxV
        simp only
        rw [if_pos (by rw [HW.out, h0.1, h0.2]; rfl)]
      obtain ⟨rfl, rfl⟩ := h0
      have c4 := HC4.out
      have c5 := HC5.out
      have B3 := B2.out
      have kR := block_cell B3
      have fR := block_frozen B3
      go_wp2_with fail
      generalize hV : (((((w2.setCell ⟨w.heap.size, 0, none⟩ _).setCell ⟨w.heap.size, 1, none⟩ _).setCell ⟨w.heap.size, 2, none⟩ _).setCell ⟨w.heap.size, 3, none⟩ _).setCell ⟨w.heap.size, 4, none⟩ _) = V8
      have hV9 : V8 = putRow w2 w.heap.size 0 [.int .i64 0, .int .i64 0, .int .i64 0, .int .u32 0, .int .u16 0] := hV.symm
      have hb8 : But (fun b => b = w.heap.size) w2 V8 := by rw [hV9]; exact putRow_but (E := fun b => b = w.heap.size) (n := w.heap.size) rfl _ _ _ _ (But.refl _ _)
      have p8 := putRow_all [.int .i64 0, .int .i64 0, .int .i64 0, .int .u32 0, .int .u16 0] B3 rfl
      rw [← hV9] at p8
      clear hV hV9 kR fR
      have P8 := block_cell p8
      have hw8 : Later w V8 := Below.trans L2 (hb8.below (Below.size L2) (fun k h e => by omega))
      exact bodyPost_ret (v := fdN) (by unfold fdN; simp [results, Tryd.results25, go_sem, P8]) rfl ⟨by rw [HV.out], hw8⟩
    · have hne : ¬ (x4 * 256 + x5 = 0) := by omega
      have HV : Hid (V = fdY kd p q (wat4 x 0) (x4 * 256 + x5)) := by
        show _ = _
        rw [← HV1.out]
        unfold sxV
        simp only
        rw [if_neg (by rw [HW.out]; exact hne), HW.out]
      have hq4 : (x4 == 0) = decide (x4 = 0) := rfl
      have c4 := HC4.out
      have c5 := HC5.out
      have hmain : ∀ W2 : World, True := fun _ => trivial
      rcases (show (x4 ≠ 0) ∨ (x4 = 0 ∧ x5 ≠ 0) by omega) with h4 | ⟨h4, h5⟩
      case' inl => have e4 : (x4 == 0) = false := by simpa using h4
      case' inr => have e4 : (x4 == 0) = true := by simpa using h4
      case' inr => have e5 : (x5 == 0) = false := by simpa using h5
      all_goals
        go_upto_region 4 with fail
        clear c4 c5
        refine anyT_begin (R := But (fun b => b = w.heap.size)) 17 rfl (by kernel_rfl) ?_
        have hd : Later w2 w2.drew := Later.drew w2
        have B4 := hide (later_keep hd B2.out)
        have L4 : Later w w2.drew := L2.trans hd
        have HAD := hide (HADR.out _ hd)
        have d4 : ∀ v1, But (fun b => b = w.heap.size) w2.drew v1 → v1.cell? ⟨g, 4, none⟩ = some (.int .i64 x4) := fun v1 h => h.cell (hd.cell HC4.out) (by show ¬ g = _; omega)
        have d5 : ∀ v1, But (fun b => b = w.heap.size) w2.drew v1 → v1.cell? ⟨g, 5, none⟩ = some (.int .i64 x5) := fun v1 h => h.cell (hd.cell HC5.out) (by show ¬ g = _; omega)
        generalize w2.drew = Wd at *
        refine anyT_val (But.pre _) 0 rfl (by kernel_rfl) (by kernel_rfl) (by kernel_rfl) (fun _ _ _ _ h => h) rfl ?_; apply Exists.intro; refine ⟨fun v1 hv1 => ?_, ?_⟩; (· (go_simp; rfl)); simp only [Act.put, List.setIfInBounds_toArray, List.set_cons_zero, List.set_cons_succ]
        refine anyT_val (But.pre _) 1 rfl (by kernel_rfl) (by kernel_rfl) (by kernel_rfl) (fun _ _ _ _ h => h) rfl ?_; apply Exists.intro; refine ⟨fun v1 hv1 => ?_, ?_⟩; (· (go_simp; rfl)); simp only [Act.put, List.setIfInBounds_toArray, List.set_cons_zero, List.set_cons_succ]
        refine anyT_val (But.pre _) 2 rfl (by kernel_rfl) (by kernel_rfl) (by kernel_rfl) (fun _ _ _ _ h => h) rfl ?_; apply Exists.intro; refine ⟨fun v1 hv1 => ?_, ?_⟩; (· (go_simp; rfl)); simp only [Act.put, List.setIfInBounds_toArray, List.set_cons_zero, List.set_cons_succ]
        refine anyT_val (But.pre _) 3 rfl (by kernel_rfl) (by kernel_rfl) (by kernel_rfl) (fun _ _ _ _ h => h) rfl ?_; apply Exists.intro; refine ⟨fun v1 hv1 => ?_, ?_⟩; (· (go_simp; rfl)); simp only [Act.put, List.setIfInBounds_toArray, List.set_cons_zero, List.set_cons_succ]
        refine anyT_val (But.pre _) 5 rfl (by kernel_rfl) (by kernel_rfl) (by kernel_rfl) (fun _ _ _ _ h => h) rfl ?_; apply Exists.intro; refine ⟨fun v1 hv1 => ?_, ?_⟩; (· (go_simp; rfl)); simp only [Act.put, List.setIfInBounds_toArray, List.set_cons_zero, List.set_cons_succ]
        refine anyT_val (But.pre _) 6 rfl (by kernel_rfl) (by kernel_rfl) (by kernel_rfl) (fun _ _ _ _ h => h) rfl ?_; apply Exists.intro; refine ⟨fun v1 hv1 => ?_, ?_⟩; (· (go_simp; rfl)); simp only [Act.put, List.setIfInBounds_toArray, List.set_cons_zero, List.set_cons_succ]
        refine anyT_val (But.pre _) 7 rfl (by kernel_rfl) (by kernel_rfl) (by kernel_rfl) (fun _ _ _ _ h => h) rfl ?_; apply Exists.intro; refine ⟨fun v1 hv1 => ?_, ?_⟩; (· (go_simp; rfl)); simp only [Act.put, List.setIfInBounds_toArray, List.set_cons_zero, List.set_cons_succ]
        refine anyT_val (But.pre _) 8 rfl (by kernel_rfl) (by kernel_rfl) (by kernel_rfl) (fun _ _ _ _ h => h) rfl ?_; apply Exists.intro; refine ⟨fun v1 hv1 => ?_, ?_⟩; (· (go_simp; rfl)); simp only [Act.put, List.setIfInBounds_toArray, List.set_cons_zero, List.set_cons_succ]
        refine anyT_val (But.pre _) 9 rfl (by kernel_rfl) (by kernel_rfl) (by kernel_rfl) (fun _ _ _ _ h => h) rfl ?_; apply Exists.intro; refine ⟨fun v1 hv1 => ?_, ?_⟩; (· (go_simp; rfl)); simp only [Act.put, List.setIfInBounds_toArray, List.set_cons_zero, List.set_cons_succ]
        refine anyT_val (But.pre _) 10 rfl (by kernel_rfl) (by kernel_rfl) (by kernel_rfl) (fun _ _ _ _ h => h) rfl ?_; apply Exists.intro; refine ⟨fun v1 hv1 => ?_, ?_⟩; (· (go_simp; rfl)); simp only [Act.put, List.setIfInBounds_toArray, List.set_cons_zero, List.set_cons_succ]
        refine anyT_val (But.pre _) 11 rfl (by kernel_rfl) (by kernel_rfl) (by kernel_rfl) (fun _ _ _ _ h => h) rfl ?_; apply Exists.intro; refine ⟨fun v1 hv1 => ?_, ?_⟩; (· (go_simp; rfl)); simp only [Act.put, List.setIfInBounds_toArray, List.set_cons_zero, List.set_cons_succ]
        refine anyT_val (But.pre _) 12 rfl (by kernel_rfl) (by kernel_rfl) (by kernel_rfl) (fun _ _ _ _ h => h) rfl ?_; apply Exists.intro; refine ⟨fun v1 hv1 => ?_, ?_⟩; (· (go_simp; rfl)); simp only [Act.put, List.setIfInBounds_toArray, List.set_cons_zero, List.set_cons_succ]
        refine anyT_val (But.pre _) 13 rfl (by kernel_rfl) (by kernel_rfl) (by kernel_rfl) (fun _ _ _ _ h => h) rfl ?_; apply Exists.intro; refine ⟨fun v1 hv1 => ?_, ?_⟩; (· (go_simp; rfl)); simp only [Act.put, List.setIfInBounds_toArray, List.set_cons_zero, List.set_cons_succ]
        clear d4 d5
        refine anyT_one 4 rfl (by kernel_rfl) rfl ?_
        refine wp_enter 44 #[.slice (some ⟨g, 0, none⟩) 6 cpx] (by go_simp) ?_
        refine HAD.out.mono ?_
        rintro e W6 ⟨rfl, l6⟩
        refine ⟨But.of l6, ?_⟩
        simp only [Act.put, List.setIfInBounds_toArray, List.set_cons_zero, List.set_cons_succ]
        refine anyT_val (But.pre _) 14 rfl (by kernel_rfl) (by kernel_rfl) (by kernel_rfl) (fun _ _ _ _ h => h) rfl ?_; apply Exists.intro; refine ⟨fun v1 hv1 => ?_, ?_⟩; (· (go_simp; rfl)); simp only [Act.put, List.setIfInBounds_toArray, List.set_cons_zero, List.set_cons_succ]
        refine anyT_one 15 rfl (by kernel_rfl) rfl ?_
        have r8 := later_keep l6 B4.out
        have L6 : Later w W6 := L4.trans l6
        have k8 := block_cell r8
        have f8 : ∀ j, W6.frozen? ⟨w.heap.size, j, none⟩ = false := block_frozen r8
        unfold Oper.wp
        go_simp
        generalize hW5 : IntKind.u16.wrap _ = pv
        have HPV : Hid (pv = x4 * 256 + x5) := by
          show _ = _
          rw [← hW5]
          first
            | exact port_wrap x4 x5 b4 b5
            | (rw [port_wrap0 x5 b5]; omega)
        clear hW5
        generalize hV7 : (((((W6.setCell ⟨w.heap.size, 0, none⟩ _).setCell ⟨w.heap.size, 1, none⟩ _).setCell ⟨w.heap.size, 2, none⟩ _).setCell ⟨w.heap.size, 3, none⟩ _).setCell ⟨w.heap.size, 4, none⟩ _) = V7
        have hV8 : V7 = putRow W6 w.heap.size 0 [.int .i64 kd, .int .i64 (p : Int), .int .i64 (q : Int), .int .u32 (wat4 x 0), .int .u16 pv] := hV7.symm
        have hbV : But (fun b => b = w.heap.size) W6 V7 := by rw [hV8]; exact putRow_but (E := fun b => b = w.heap.size) (n := w.heap.size) rfl _ _ _ _ (But.refl _ _)
        have pV := putRow_all [.int .i64 kd, .int .i64 (p : Int), .int .i64 (q : Int), .int .u32 (wat4 x 0), .int .u16 pv] r8 rfl
        rw [← hV8] at pV
        clear hV7 hV8 k8 f8
        refine ⟨hbV, ?_⟩
        refine anyT_one 16 rfl (by kernel_rfl) rfl ?_
        unfold Oper.wp
        go_simp
        refine ⟨But.refl _ _, ?_⟩
        refine anyT_done (by kernel_rfl) ?_
        have PV := block_cell pV
        have hwV : Later w V7 := Below.trans L6 (hbV.below (Below.size L6) (fun k hk e => by omega))
        go_wp2_with fail
        exact bodyPost_ret (v := fdY kd p q (wat4 x 0) pv) (by unfold fdY; simp [results, Tryd.results25, go_sem, PV]) rfl ⟨by rw [HV.out, HPV.out], hwV⟩
end Go.Proofs.YtjkhblfgadnjfaaDoor

/- The document looks at a line with its end, the program at one without: the same. -/
namespace Go.Proofs.YtjkhblfgadnjfaaDoor
open Go.RowKit Go.Shelf
set_option maxRecDepth 100000
set_option linter.unusedVariables false
set_option linter.unusedSimpArgs false

theorem dgZ_line (a b : List Int) (hb : dgt (b[0]?.getD 0) = false) : ∀ (k p : Nat), a.length - p = k → p ≤ a.length → dgZ (a ++ b) p = dgZ a p
  | 0, p, hk, hp => by
    have e : p = a.length := by omega
    rw [dgZ_end e]
    subst e
    cases b with
    | nil => exact dgZ_end (by simp)
    | cons c r =>
      refine dgZ_stop (by simp) ?_
      rw [List.getElem?_append_right (Nat.le_refl _), Nat.sub_self]
      exact hb
  | k + 1, p, hk, hp => by
    have hlt : p < a.length := by omega
    have he : (a ++ b)[p]?.getD 0 = a[p]?.getD 0 := by rw [List.getElem?_append_left hlt]
    cases hd : dgt (a[p]?.getD 0) with
    | true => rw [dgZ_go hlt hd, dgZ_go (by rw [List.length_append]; omega) (by rw [he]; exact hd)]; exact dgZ_line a b hb k (p + 1) (by omega) (by omega)
    | false => rw [dgZ_stop hlt hd, dgZ_stop (by rw [List.length_append]; omega) (by rw [he]; exact hd)]
theorem dgS_line (a b : List Int) (hb : dgt (b[0]?.getD 0) = false) (p : Nat) (hp : p ≤ a.length) : dgS (a ++ b) p = dgS a p := by
  unfold dgS
  have h := dgZ_le hp
  rw [dgZ_line a b hb _ p rfl hp, List.drop_append_of_le_length hp, List.take_append_of_le_length (by rw [List.length_drop]; omega)]
theorem tk_line (a b : List Int) (h : Mt.By (a ++ b)) (c : UInt8) (hc : c.toNat < 65) (hb : b[0]?.getD 0 ≠ (c.toNat : Int)) (p : Nat) (hp : p ≤ a.length) : tkB (a ++ b) p ⟨#[c]⟩ = tkB a p ⟨#[c]⟩ := by
  rw [tk_byte _ h p c hc, tk_byte _ (by_app h).1 p c hc]
  by_cases hlt : p < a.length
  · rw [List.getElem?_append_left hlt, List.length_append, decide_eq_true hlt, decide_eq_true (by omega)]
  · have e : p = a.length := by omega
    subst e
    rw [List.getElem?_append_right (Nat.le_refl _), Nat.sub_self, decide_eq_false hb]
    simp
theorem row_line (a b : List Int) (h : Mt.By (a ++ b)) (c : UInt8) (hc : c.toNat < 65) (hb : b[0]?.getD 0 ≠ (c.toNat : Int)) (hd : dgt (b[0]?.getD 0) = false) : ∀ (k i p : Nat), p ≤ a.length → rowF (a ++ b) ⟨#[c]⟩ k i p = rowF a ⟨#[c]⟩ k i p
  | 0, i, p, hp => rfl
  | k + 1, i, p, hp => by
    show (nxP _ _ _ _).bind _ = (nxP _ _ _ _).bind _
    have e : nxP (a ++ b) ⟨#[c]⟩ i p = nxP a ⟨#[c]⟩ i p := by unfold nxP; rw [tk_line a b h c hc hb p hp]
    rw [e]
    cases hq : nxP a ⟨#[c]⟩ i p with
    | none => rfl
    | some q =>
      have hql : q ≤ a.length := by
        unfold nxP at hq
        split at hq
        · obtain rfl : p = q := by simpa using hq
          exact hp
        · split at hq
          · rename_i ht
            have hle := tkB_le ht
            have h9 : some (p + 1) = some q := hq
            obtain rfl : p + 1 = q := by simpa using h9
            exact hle
          · cases hq
      simp only [Option.bind_some]
      rw [dgS_line a b hd q hql, dgZ_line a b hd _ q rfl hql]
      have ih := fun z (hz : z ≤ a.length) => row_line a b h c hc hb hd k (i + 1) z hz
      rw [ih _ (dgZ_le hql).2]
theorem hs_iff (zs : List Int) (p : Nat) (t : ByteArray) : ∀ k i, i + k = t.size → (hsP zs p t k i = true ↔ ∀ j, i ≤ j → j < t.size → p + j < zs.length ∧ upr (zs[p + j]?.getD 0) = bAt t j)
  | 0, i, h => by simp [hsP]; intro j h1 h2; omega
  | k + 1, i, h => by
    unfold hsP
    constructor
    · intro hh
      split at hh
      · rename_i h0
        intro j h1 h2
        by_cases e : j = i
        · subst e; exact h0
        · exact (hs_iff zs p t k (i + 1) (by omega)).1 hh j (by omega) h2
      · cases hh
    · intro hh
      rw [if_pos (hh i (Nat.le_refl _) (by omega))]
      exact (hs_iff zs p t k (i + 1) (by omega)).2 fun j h1 h2 => hh j (by omega) h2
/-- A large letter, or none; no end of a line. -/
def Cap (c : Int) : Prop := ¬ (97 ≤ c ∧ c ≤ 122) ∧ c ≠ 13 ∧ c ≠ 10
theorem upr_sml {z c : Int} (h : Cap c) : upr z = c ↔ sml z = sml c := by
  unfold Cap at h
  unfold upr sml
  constructor
  · intro e
    split at e <;> split <;> split <;> omega
  · intro e
    split <;> split at e <;> split at e <;> omega
theorem has_line (l : List Int) (hB : Mt.By (l ++ [13, 10])) (p : Nat) (hp : p ≤ l.length) (t : ByteArray) (ht : ∀ z ∈ nmsB t, Cap z) (h0 : 0 < t.size) : hsV (l ++ [13, 10]) p t = tkB l p t := by
  have hl := (by_app hB).1
  have key : hsV (l ++ [13, 10]) p t = true ↔ tkB l p t = true := by
    unfold hsV
    rw [hs_iff _ _ _ _ 0 (by omega)]
    unfold tkB swV
    simp only [Bool.and_eq_true, decide_eq_true_eq, strOfNums_size]
    have hb : Mt.By ((l.drop p).take t.size) := fun z h => hl z (List.mem_of_mem_drop (List.mem_of_mem_take h))
    constructor
    · intro h
      have hlen : p + t.size ≤ l.length := by
        apply Classical.byContradiction
        intro hn
        obtain ⟨h1, h2⟩ := h (l.length - p) (by omega) (by omega)
        rw [show p + (l.length - p) = l.length by omega, List.getElem?_append_right (Nat.le_refl _), Nat.sub_self] at h2
        have hj : l.length - p < t.size := by omega
        have h3 := ht (bAt t (l.length - p)) (by rw [nmsB_at t _ hj]; rw [List.getElem?_eq_getElem (by rw [nmsB_len]; exact hj)]; exact List.getElem_mem _)
        have h4 : upr 13 = bAt t (l.length - p) := h2
        have h5 : upr 13 = 13 := rfl
        exact h3.2.1 (by omega)
      have hlen2 : ((l.drop p).take t.size).length = t.size := by rw [List.length_take, List.length_drop]; omega
      refine ⟨hlen, hlen2, ?_⟩
      rw [swP_iff]
      intro j hj
      rw [hlen2] at hj
      rw [Nat.zero_add, strOf_at _ hb j (by omega), List.getElem?_take, if_pos hj, List.getElem?_drop]
      have h6 := (h j (by omega) hj).2
      rw [List.getElem?_append_left (by omega)] at h6
      have h3 := ht (bAt t j) (by rw [nmsB_at t _ hj]; rw [List.getElem?_eq_getElem (by rw [nmsB_len]; exact hj)]; exact List.getElem_mem _)
      exact (upr_sml h3).1 h6
    · rintro ⟨h1, h2, h3⟩ j _ hj
      rw [swP_iff] at h3
      have h4 := h3 j (by omega)
      rw [Nat.zero_add, strOf_at _ hb j (by omega), List.getElem?_take, if_pos hj, List.getElem?_drop] at h4
      have h5 := ht (bAt t j) (by rw [nmsB_at t _ hj]; rw [List.getElem?_eq_getElem (by rw [nmsB_len]; exact hj)]; exact List.getElem_mem _)
      refine ⟨by rw [List.length_append]; omega, ?_⟩
      rw [List.getElem?_append_left (by omega)]
      exact (upr_sml h5).2 h4
  cases h1 : hsV (l ++ [13, 10]) p t <;> cases h2 : tkB l p t <;> simp_all
theorem op_go (b : List Int) : ∀ (a pre : List Int), 40 ∉ a → opP (pre ++ (a ++ 40 :: b)) ((pre ++ (a ++ 40 :: b)).length - pre.length) pre.length = ((pre.length + a.length : Nat) : Int)
  | [], pre, h => by
    rw [opP_next (by simp), if_pos (by rw [List.getElem?_append_right (Nat.le_refl _), Nat.sub_self]; rfl)]
    simp
  | z :: a, pre, h => by
    have hz : z ≠ 40 := fun e => h (by simp [e])
    rw [opP_next (by simp), if_neg (by rw [List.getElem?_append_right (Nat.le_refl _), Nat.sub_self]; exact hz)]
    have ih := op_go b a (pre ++ [z]) (fun e => h (by simp [e]))
    rw [show pre ++ (z :: a ++ 40 :: b) = (pre ++ [z]) ++ (a ++ 40 :: b) by simp, show pre.length + 1 = (pre ++ [z]).length by simp, ih]
    simp
    omega
theorem op_no (zs : List Int) (h : 40 ∉ zs) : ∀ k i, zs.length - i = k → opP zs (zs.length - i) i = -1
  | 0, i, hk => by rw [hk]; rfl
  | k + 1, i, hk => by
    have hi : i < zs.length := by omega
    rw [opP_next hi, if_neg (by rw [List.getElem?_eq_getElem hi]; exact fun e => h (by rw [← e]; exact List.getElem_mem hi))]
    exact op_no zs h k (i + 1) (by omega)
theorem op_line (l : List Int) (hB : Mt.By l) (h4 : 4 ≤ l.length) (hf : 40 ∉ l.take 4) : opV (l ++ [13, 10]) 0 = if pst l 4 40 < 0 then -1 else 4 + pst l 4 40 := by
  have hm : Mt.By (l.drop 4) := fun z hz => hB z (List.mem_of_mem_drop hz)
  by_cases hin : (40 : Int) ∈ l.drop 4
  · obtain ⟨a, b, e, hn⟩ := List.eq_append_cons_of_mem hin
    have hix := ix_mk b a (by rw [e] at hm; exact (by_app hm).1) hn
    rw [← e] at hix
    have hp : pst l 4 40 = (a.length : Int) := hix
    rw [if_neg (by omega), hp]
    have hl : l ++ [13, 10] = [] ++ ((l.take 4 ++ a) ++ 40 :: (b ++ [13, 10])) := by
      have := List.take_append_drop 4 l
      rw [e] at this
      rw [← this]
      simp [List.take_append_of_le_length, List.length_take, Nat.min_eq_left h4]
    have := op_go (b ++ [13, 10]) (l.take 4 ++ a) [] (fun h => by rcases List.mem_append.1 h with h | h; (· exact hf h); (· exact hn h))
    unfold opV
    rw [hl]
    rw [show ([] : List Int).length = 0 from rfl] at this
    rw [this, List.length_append, List.length_take]
    omega
  · have hp : pst l 4 40 < 0 := by
      apply Classical.byContradiction
      intro h
      obtain ⟨a, b, e, _, _⟩ := ix_was (l.drop 4) hm (by unfold pst at h; simpa using h)
      exact hin (by rw [e]; simp)
    rw [if_pos hp]
    unfold opV
    refine op_no _ (fun h => ?_) _ 0 rfl
    rcases List.mem_append.1 h with h | h
    · have := List.take_append_drop 4 l
      rw [← this] at h
      rcases List.mem_append.1 h with h | h
      · exact hf h
      · exact hin h
    · simp at h
def tE1 : ByteArray := ⟨#[69, 80, 82, 84, 32, 124, 49, 124]⟩
def tOp4 : ByteArray := ⟨#[40, 124, 124, 124]⟩
theorem cap_port : ∀ z ∈ nmsB tPort, Cap z := by unfold Cap; decide
theorem cap_e1 : ∀ z ∈ nmsB tE1, Cap z := by unfold Cap; decide
theorem cap_227 : ∀ z ∈ nmsB t227, Cap z := by unfold Cap; decide
theorem cap_229 : ∀ z ∈ nmsB t229, Cap z := by unfold Cap; decide
theorem cap_op4 : ∀ z ∈ nmsB tOp4, Cap z := by unfold Cap; decide
theorem cap_end4 : ∀ z ∈ nmsB tEnd4, Cap z := by unfold Cap; decide
theorem nl_227 : ∀ z ∈ nmsB t227, NL z := by unfold NL; decide
theorem nl_229 : ∀ z ∈ nmsB t229, NL z := by unfold NL; decide
theorem nl_op4 : ∀ z ∈ nmsB tOp4, NL z := by unfold NL; decide
theorem tkB_iff (zs : List Int) (hz : Mt.By zs) (p : Nat) (t : ByteArray) : tkB zs p t = true ↔ p + t.size ≤ zs.length ∧ ∀ j, j < t.size → sml (zs[p + j]?.getD 0) = sml (bAt t j) := by
  unfold tkB swV
  have hb : Mt.By ((zs.drop p).take t.size) := fun z h => hz z (List.mem_of_mem_drop (List.mem_of_mem_take h))
  simp only [Bool.and_eq_true, decide_eq_true_eq, strOfNums_size]
  constructor
  · rintro ⟨h1, h2, h3⟩
    rw [swP_iff] at h3
    refine ⟨h1, fun j hj => ?_⟩
    have h4 := h3 j (by omega)
    rw [Nat.zero_add, strOf_at _ hb j (by omega), List.getElem?_take, if_pos hj, List.getElem?_drop] at h4
    exact h4
  · rintro ⟨h1, h3⟩
    have h2 : ((zs.drop p).take t.size).length = t.size := by rw [List.length_take, List.length_drop]; omega
    refine ⟨h1, h2, ?_⟩
    rw [swP_iff]
    intro j hj
    rw [h2] at hj
    rw [Nat.zero_add, strOf_at _ hb j (by omega), List.getElem?_take, if_pos hj, List.getElem?_drop]
    exact h3 j hj
theorem tk_e1 (l : List Int) (hB : Mt.By l) : tkB l 0 tE1 = (tkB l 0 tEprt && tkB l 5 tOne) := by
  have key : tkB l 0 tE1 = true ↔ tkB l 0 tEprt = true ∧ tkB l 5 tOne = true := by
    rw [tkB_iff l hB, tkB_iff l hB, tkB_iff l hB]
    have s1 : tE1.size = 8 := rfl
    have s2 : tEprt.size = 5 := rfl
    have s3 : tOne.size = 3 := rfl
    rw [s1, s2, s3]
    constructor
    · rintro ⟨h1, h2⟩
      refine ⟨⟨by omega, fun j hj => ?_⟩, by omega, fun j hj => ?_⟩
      · have := h2 j (by omega)
        rw [this]
        rcases (show j = 0 ∨ j = 1 ∨ j = 2 ∨ j = 3 ∨ j = 4 by omega) with rfl | rfl | rfl | rfl | rfl <;> rfl
      · have := h2 (5 + j) (by omega)
        rw [Nat.zero_add] at this
        rw [this]
        rcases (show j = 0 ∨ j = 1 ∨ j = 2 by omega) with rfl | rfl | rfl <;> rfl
    · rintro ⟨⟨h1, h2⟩, h3, h4⟩
      refine ⟨by omega, fun j hj => ?_⟩
      by_cases h5 : j < 5
      · rw [h2 j h5]
        rcases (show j = 0 ∨ j = 1 ∨ j = 2 ∨ j = 3 ∨ j = 4 by omega) with rfl | rfl | rfl | rfl | rfl <;> rfl
      · have := h4 (j - 5) (by omega)
        rw [show 5 + (j - 5) = 0 + j by omega] at this
        rw [this]
        rcases (show j = 5 ∨ j = 6 ∨ j = 7 by omega) with rfl | rfl | rfl <;> rfl
  cases h1 : tkB l 0 tE1 <;> cases h2 : tkB l 0 tEprt <;> cases h3 : tkB l 5 tOne <;> simp_all
end Go.Proofs.YtjkhblfgadnjfaaDoor

/- The document's Find. -/
namespace Go.Proofs.YtjkhblfgadnjfaaDoor
open Go.RowKit Go.Shelf
set_option maxRecDepth 100000
set_option linter.unusedVariables false
set_option linter.unusedSimpArgs false

def fx1 (o : Option (List Int × Nat)) (p n : Nat) : Value := match o with
  | none => fdN
  | some x => if wat x.1 4 ≠ 0 ∧ x.2 = n then fdY 1 p x.2 (wat4 x.1 0) (wat x.1 4) else fdN
theorem fd1_is (l : List Int) (p : Nat) : fd1 l p = fx1 (sixO l p) p l.length := rfl

set_option maxHeartbeats 8000000 in
theorem rfind_no (sv : Value) (zs : List Int) (back : Bool) (w : World) (hB : Mt.By zs) (hI : Rd w.heap.size w sv zs) (h1 : oneL zs = false) :
    Calls Tryd.prog 10 #[sv, .bool back] w fun e w' => e = .returned (fndB zs back) ∧ Later w w' := by
  obtain ⟨a, cap, rfl, hl1, hm1⟩ := hI.slice
  have HV : Hid (fndB zs back = fdN) := fndB_no h1
  generalize fndB zs back = V at *
  have l1 := later_allocR w (.cells #[.int .i64 0, .int .i64 0, .int .i64 0, .int .u32 0, .int .u16 0] 31)
  have B1 := heap_alloc_new w (.cells #[.int .i64 0, .int .i64 0, .int .i64 0, .int .u32 0, .int .u16 0] 31)
  have HL := hide (rline_any _ zs hB _ (hI.later l1))
  rw [h1] at HL
  clear hB hI h1
  go_enter Tryd.func10, Tryd.ntmps10
  go_upto_region 1 with fail
  generalize w.alloc _ = w1 at *
  go_wp2_with fail
  refine HL.out.mono ?_
  rintro e w2 ⟨rfl, rfl⟩
  have kR := block_cell B1
  have fR := block_frozen B1
  go_wp2_with fail
  generalize hV : (((((w2.setCell ⟨w.heap.size, 0, none⟩ _).setCell ⟨w.heap.size, 1, none⟩ _).setCell ⟨w.heap.size, 2, none⟩ _).setCell ⟨w.heap.size, 3, none⟩ _).setCell ⟨w.heap.size, 4, none⟩ _) = V8
  have hV9 : V8 = putRow w2 w.heap.size 0 [.int .i64 0, .int .i64 0, .int .i64 0, .int .u32 0, .int .u16 0] := hV.symm
  have hb8 : But (fun b => b = w.heap.size) w2 V8 := by rw [hV9]; exact putRow_but (E := fun b => b = w.heap.size) (n := w.heap.size) rfl _ _ _ _ (But.refl _ _)
  have p8 := putRow_all [.int .i64 0, .int .i64 0, .int .i64 0, .int .u32 0, .int .u16 0] B1 rfl
  rw [← hV9] at p8
  clear hV hV9 kR fR
  have P8 := block_cell p8
  have hw8 : Later w V8 := Below.trans l1 (hb8.below (Below.size l1) (fun k h e => by omega))
  exact bodyPost_ret (v := fdN) (by unfold fdN; simp [results, Tryd.results10, go_sem, P8]) rfl ⟨by rw [HV.out], hw8⟩

set_option maxHeartbeats 8000000 in
theorem rfind_port (bb off cp : Nat) (l : List Int) (w : World) (hB : Mt.By (l ++ [13, 10])) (hI : Rd w.heap.size w (.slice (some ⟨bb, off, none⟩) (l ++ [13, 10]).length cp) (l ++ [13, 10])) (h1 : oneL (l ++ [13, 10]) = true) (hp : tkB l 0 tPort = true) :
    Calls Tryd.prog 10 #[.slice (some ⟨bb, off, none⟩) (l ++ [13, 10]).length cp, .bool false] w fun e w' => e = .returned (fndB (l ++ [13, 10]) false) ∧ Later w w' := by
  have hlen := oneL_len h1
  have hBl := (by_app hB).1
  have hll : (l ++ [13, 10]).length = l.length + 2 := by simp
  have hcr : crl l = false := by
    have := oneL_mk l
    rw [h1] at this
    simp only [Bool.true_eq, Bool.and_eq_true, decide_eq_true_eq, Bool.not_eq_true'] at this
    exact this.2
  have hVl : fndB (l ++ [13, 10]) false = fnd l false := fndB_line false hcr (by omega)
  have l1 := later_allocR w (.cells #[.int .i64 0, .int .i64 0, .int .i64 0, .int .u32 0, .int .u16 0] 31)
  have B1 := hide (heap_alloc_new w (.cells #[.int .i64 0, .int .i64 0, .int .i64 0, .int .u32 0, .int .u16 0] 31))
  have HLN := hide (rline_any _ (l ++ [13, 10]) hB _ (hI.later l1))
  rw [h1] at HLN
  have hk : kdV l 0 false = (1, 5) := by unfold kdV; rw [if_pos rfl, if_pos hp]
  have h5 : 5 ≤ l.length := by have h9 : 0 + 5 ≤ l.length := tkB_le hp; omega
  have hV2 : fndB (l ++ [13, 10]) false = fd1 l 5 := by rw [hVl]; unfold fnd; rw [hk]; rfl
  have hro : rowF (l ++ [13, 10]) cma 6 0 5 = sixO l 5 := row_line l [13, 10] hB 44 (by decide) (by decide) (by decide) 6 0 5 h5
  have HH := hide (fun W (lw : Later w W) => rhas_any bb off cp W.heap.size (l ++ [13, 10]) hB 0 tPort W (hI.later lw) (by omega) (by omega) (by decide))
  rw [has_line l hB 0 (by omega) tPort cap_port (by decide), hp] at HH
  have HS := hide (fun W (lw : Later w W) => rsix_any bb off cp (l ++ [13, 10]) hB 5 1 W (hI.later lw) (by omega) (by omega))
  rw [hro] at HS
  rw [fd1_is] at hV2
  rw [hV2]
  clear hV2 hVl hro hk hp h1
  have hIc := hide hI
  generalize (l ++ [13, 10]).length = zl at *
  clear hI hB hBl hcr
  obtain ⟨o, ho⟩ : ∃ o, sixO l 5 = o := ⟨_, rfl⟩
  rw [ho] at HS ⊢
  clear ho
  obtain ⟨V, hV⟩ : ∃ V, fx1 o 5 l.length = V := ⟨_, rfl⟩
  have HVV := hide hV
  rw [hV]
  clear hV
  have e1 : (zl : Int) - 2 = (l.length : Int) := by omega
  have gz : (zl : Int) ≤ 1000 := by omega
  clear hll hlen h5
  unfold tPort at HH
  go_enter Tryd.func10, Tryd.ntmps10
  go_upto_region 1 with fail
  generalize w.alloc _ = w1 at *
  go_wp2_with fail
  refine HLN.out.mono ?_
  rintro e w2 ⟨rfl, rfl⟩
  clear HLN
  go_wp2_with fail
  refine (HH.out w2 l1).mono ?_
  rintro e w3 ⟨rfl, rfl⟩
  go_wp2_with fail
  refine (HS.out w3 l1).mono ?_
  rintro e w5 ⟨rfl, l5⟩
  have L5 := l1.trans l5
  have hno : ∀ (HVN : Hid (V = fdN)) (hsx : sxV o 5 1 = fdN), True := fun _ _ => trivial
  rcases (show (sxV o 5 1 = fdN ∧ V = fdN) ∨ ∃ x q, o = some (x, q) ∧ wat x 4 ≠ 0 by
    rw [← HVV.out]
    unfold sxV fx1
    rcases o with _ | ⟨x, q⟩
    · exact .inl ⟨rfl, rfl⟩
    · by_cases hw : wat x 4 = 0
      · left; simp [hw]
      · exact .inr ⟨x, q, rfl, hw⟩) with ⟨hs, hv⟩ | ⟨x, q, rfl, hw⟩
  · rw [hs]
    unfold fdN
    have HV := hide hv
    clear hs hv
    have l3 := later_allocR w5 (.cells #[.int .i64 0, .int .i64 0, .int .i64 0, .int .u32 0, .int .u16 0] 31)
    have B3 := hide (heap_alloc_new w5 (.cells #[.int .i64 0, .int .i64 0, .int .i64 0, .int .u32 0, .int .u16 0] 31))
    go_upto_region 7 with fail
    generalize w5.alloc _ = w4 at *
    generalize w5.heap.size = fb at *
    have kF := block_cell B3.out
    have L4 : Later w w4 := L5.trans l3
    have B4 := hide (later_keep ((l5).trans l3) B1.out)
    go_wp2_with fail
    refine (rfound_any 0 0 0 0 0 false w4).mono ?_
    rw [if_neg (by simp)]
    unfold fdN
    rintro e w6 ⟨rfl, l6⟩
    have L6 := L4.trans l6
    have B6 := later_keep l6 B4.out
    have kR := block_cell B6
    have fR := block_frozen B6
    go_wp2_with fail
    generalize hV : (((((w6.setCell ⟨w.heap.size, 0, none⟩ _).setCell ⟨w.heap.size, 1, none⟩ _).setCell ⟨w.heap.size, 2, none⟩ _).setCell ⟨w.heap.size, 3, none⟩ _).setCell ⟨w.heap.size, 4, none⟩ _) = V8
    have hV9 : V8 = putRow w6 w.heap.size 0 [.int .i64 0, .int .i64 0, .int .i64 0, .int .u32 0, .int .u16 0] := hV.symm
    have hb8 : But (fun b => b = w.heap.size) w6 V8 := by rw [hV9]; exact putRow_but (E := fun b => b = w.heap.size) (n := w.heap.size) rfl _ _ _ _ (But.refl _ _)
    have p8 := putRow_all [.int .i64 0, .int .i64 0, .int .i64 0, .int .u32 0, .int .u16 0] B6 rfl
    rw [← hV9] at p8
    clear hV hV9 kR fR
    have P8 := block_cell p8
    have hw8 : Later w V8 := Below.trans L6 (hb8.below (Below.size L6) (fun k h e => by omega))
    exact bodyPost_ret (v := fdN) (by unfold fdN; simp [results, Tryd.results10, go_sem, P8]) rfl ⟨by rw [HV.out], hw8⟩
  · rw [show sxV (some (x, q)) 5 1 = fdY 1 (5 : Nat) q (wat4 x 0) (wat x 4) from by unfold sxV; simp only; rw [if_neg hw]]
    unfold fdY
    have l3 := later_allocR w5 (.cells #[.int .i64 1, .int .i64 5, .int .i64 (q : Int), .int .u32 (wat4 x 0), .int .u16 (wat x 4)] 31)
    have B3 := hide (heap_alloc_new w5 (.cells #[.int .i64 1, .int .i64 5, .int .i64 (q : Int), .int .u32 (wat4 x 0), .int .u16 (wat x 4)] 31))
    go_upto_region 7 with fail
    generalize w5.alloc _ = w4 at *
    generalize w5.heap.size = fb at *
    have kF := block_cell B3.out
    have L4 : Later w w4 := L5.trans l3
    have B4 := hide (later_keep ((l5).trans l3) B1.out)
    by_cases hq : q = l.length
    · have hq' : ((q : Int) == (l.length : Int)) = true := by simp [hq]
      have HV : Hid (V = fdY 1 5 q (wat4 x 0) (wat x 4)) := by show _ = _; rw [← HVV.out]; unfold fx1; simp only; rw [if_pos ⟨hw, hq⟩]; rfl
      clear hq hw
      go_wp2_with fail
      refine (rfound_any 1 5 q (wat4 x 0) (wat x 4) true w4).mono ?_
      rw [if_pos rfl]
      unfold fdY
      rintro e w6 ⟨rfl, l6⟩
      have L6 := L4.trans l6
      have B6 := later_keep l6 B4.out
      have kR := block_cell B6
      have fR := block_frozen B6
      go_wp2_with fail
      generalize hV : (((((w6.setCell ⟨w.heap.size, 0, none⟩ _).setCell ⟨w.heap.size, 1, none⟩ _).setCell ⟨w.heap.size, 2, none⟩ _).setCell ⟨w.heap.size, 3, none⟩ _).setCell ⟨w.heap.size, 4, none⟩ _) = V8
      have hV9 : V8 = putRow w6 w.heap.size 0 [.int .i64 1, .int .i64 5, .int .i64 (q : Int), .int .u32 (wat4 x 0), .int .u16 (wat x 4)] := hV.symm
      have hb8 : But (fun b => b = w.heap.size) w6 V8 := by rw [hV9]; exact putRow_but (E := fun b => b = w.heap.size) (n := w.heap.size) rfl _ _ _ _ (But.refl _ _)
      have p8 := putRow_all [.int .i64 1, .int .i64 5, .int .i64 (q : Int), .int .u32 (wat4 x 0), .int .u16 (wat x 4)] B6 rfl
      rw [← hV9] at p8
      clear hV hV9 kR fR
      have P8 := block_cell p8
      have hw8 : Later w V8 := Below.trans L6 (hb8.below (Below.size L6) (fun k h e => by omega))
      exact bodyPost_ret (v := fdY 1 5 q (wat4 x 0) (wat x 4)) (by unfold fdY; simp [results, Tryd.results10, go_sem, P8]) rfl ⟨by rw [HV.out], hw8⟩
    · have hq' : ((q : Int) == (l.length : Int)) = false := by simp; omega
      have HV : Hid (V = fdN) := by show _ = _; rw [← HVV.out]; unfold fx1; simp only; rw [if_neg (fun h => hq h.2)]
      clear hq hw
      go_wp2_with fail
      refine (rfound_any 1 5 q (wat4 x 0) (wat x 4) false w4).mono ?_
      rw [if_neg (by simp)]
      unfold fdN
      rintro e w6 ⟨rfl, l6⟩
      have L6 := L4.trans l6
      have B6 := later_keep l6 B4.out
      have kR := block_cell B6
      have fR := block_frozen B6
      go_wp2_with fail
      generalize hV : (((((w6.setCell ⟨w.heap.size, 0, none⟩ _).setCell ⟨w.heap.size, 1, none⟩ _).setCell ⟨w.heap.size, 2, none⟩ _).setCell ⟨w.heap.size, 3, none⟩ _).setCell ⟨w.heap.size, 4, none⟩ _) = V8
      have hV9 : V8 = putRow w6 w.heap.size 0 [.int .i64 0, .int .i64 0, .int .i64 0, .int .u32 0, .int .u16 0] := hV.symm
      have hb8 : But (fun b => b = w.heap.size) w6 V8 := by rw [hV9]; exact putRow_but (E := fun b => b = w.heap.size) (n := w.heap.size) rfl _ _ _ _ (But.refl _ _)
      have p8 := putRow_all [.int .i64 0, .int .i64 0, .int .i64 0, .int .u32 0, .int .u16 0] B6 rfl
      rw [← hV9] at p8
      clear hV hV9 kR fR
      have P8 := block_cell p8
      have hw8 : Later w V8 := Below.trans L6 (hb8.below (Below.size L6) (fun k h e => by omega))
      exact bodyPost_ret (v := fdN) (by unfold fdN; simp [results, Tryd.results10, go_sem, P8]) rfl ⟨by rw [HV.out], hw8⟩
end Go.Proofs.YtjkhblfgadnjfaaDoor

/- The document's Find of an EPRT. -/
namespace Go.Proofs.YtjkhblfgadnjfaaDoor
open Go.RowKit Go.Shelf
set_option maxRecDepth 100000
set_option linter.unusedVariables false
set_option linter.unusedSimpArgs false

theorem fnd_e0 {l : List Int} (hp : tkB l 0 tPort = false) (he : tkB l 0 tEprt = false) : fnd l false = fdN := by
  have hk : kdV l 0 false = (0, 0) := by unfold kdV; rw [if_pos rfl, if_neg (by rw [hp]; simp), if_neg (by rw [he]; simp)]
  unfold fnd
  rw [hk]
  rfl
theorem fnd_e2 {l : List Int} (hp : tkB l 0 tPort = false) (he : tkB l 0 tEprt = true) : fnd l false = fd2 l 5 := by
  have hk : kdV l 0 false = (2, 5) := by unfold kdV; rw [if_pos rfl, if_neg (by rw [hp]; simp), if_pos he]
  unfold fnd
  rw [hk]
  rfl
theorem fd2_no {l : List Int} (h : tkB l 5 tOne = false) : fd2 l 5 = fdN := by unfold fd2 barO; rw [if_pos h]
theorem fd2_none {l : List Int} (h1 : tkB l 5 tOne = true) (ho : rowF l tDot 4 0 8 = none) : fd2 l 5 = fdN := by
  have hb : barO l 5 = none := by unfold barO; rw [if_neg (by rw [h1]; simp), show 5 + 3 = 8 from rfl, ho]; rfl
  unfold fd2
  rw [hb]
theorem fd2_some {l x : List Int} {q : Nat} (h1 : tkB l 5 tOne = true) (ho : rowF l tDot 4 0 8 = some (x, q)) : fd2 l 5 = if tkB l q tBar = false then fdN else if portB l (q + 1) = false then fdN else if tkB l (dgZ l (q + 1)) tBar = false then fdN else if dgZ l (q + 1) + 1 = l.length then fdY 2 5 ((dgZ l (q + 1) + 1 : Nat) : Int) (wat4 x 0) (portV l (q + 1)) else fdN := by
  have hb : barO l 5 = if tkB l q tBar = false then none else if portB l (q + 1) = false then none else if tkB l (dgZ l (q + 1)) tBar = false then none else some (x, dgZ l (q + 1) + 1, portV l (q + 1)) := by unfold barO; rw [if_neg (by rw [h1]; simp), show 5 + 3 = 8 from rfl, ho]; rfl
  unfold fd2
  rw [hb]
  by_cases c1 : tkB l q tBar = false
  · rw [if_pos c1, if_pos c1]
  by_cases c2 : portB l (q + 1) = false
  · rw [if_neg c1, if_neg c1, if_pos c2, if_pos c2]
  by_cases c3 : tkB l (dgZ l (q + 1)) tBar = false
  · rw [if_neg c1, if_neg c1, if_neg c2, if_neg c2, if_pos c3, if_pos c3]
  rw [if_neg c1, if_neg c1, if_neg c2, if_neg c2, if_neg c3, if_neg c3]
  rfl
theorem bar_at (l : List Int) (hB : Mt.By (l ++ [13, 10])) (q : Nat) (hq : q ≤ l.length) : tkB l q tBar = decide ((l ++ [13, 10])[q]?.getD 0 = 124) := by
  have hl := (by_app hB).1
  have key : tkB l q tBar = true ↔ (l ++ [13, 10])[q]?.getD 0 = 124 := by
    rw [tkB_iff l hl]
    have s1 : tBar.size = 1 := rfl
    rw [s1]
    constructor
    · rintro ⟨h1, h2⟩
      have := h2 0 (by omega)
      rw [Nat.add_zero] at this
      rw [List.getElem?_append_left (by omega)]
      exact (sml_nl (show NL (bAt tBar 0) by unfold NL; decide)).1 this
    · intro h
      by_cases hlt : q < l.length
      · rw [List.getElem?_append_left hlt] at h
        refine ⟨hlt, fun j hj => ?_⟩
        obtain rfl : j = 0 := by omega
        rw [Nat.add_zero, h]
        rfl
      · have : q = l.length := by omega
        subst this
        rw [List.getElem?_append_right (Nat.le_refl _), Nat.sub_self] at h
        simp at h
  by_cases h : (l ++ [13, 10])[q]?.getD 0 = 124
  · rw [key.2 h]; simp [h]
  · rw [decide_eq_false h]
    cases ht : tkB l q tBar with
    | false => rfl
    | true => exact absurd (key.1 ht) h

set_option maxHeartbeats 8000000 in
theorem rfind_eprt (bb off cp : Nat) (l : List Int) (w : World) (hB : Mt.By (l ++ [13, 10])) (hI : Rd w.heap.size w (.slice (some ⟨bb, off, none⟩) (l ++ [13, 10]).length cp) (l ++ [13, 10])) (h1 : oneL (l ++ [13, 10]) = true) (hp : tkB l 0 tPort = false) :
    Calls Tryd.prog 10 #[.slice (some ⟨bb, off, none⟩) (l ++ [13, 10]).length cp, .bool false] w fun e w' => e = .returned (fndB (l ++ [13, 10]) false) ∧ Later w w' := by
  have hlen := oneL_len h1
  have hBl := (by_app hB).1
  have hll : (l ++ [13, 10]).length = l.length + 2 := by simp
  have hcr : crl l = false := by
    have := oneL_mk l
    rw [h1] at this
    simp only [Bool.true_eq, Bool.and_eq_true, decide_eq_true_eq, Bool.not_eq_true'] at this
    exact this.2
  have hVl : fndB (l ++ [13, 10]) false = fnd l false := fndB_line false hcr (by omega)
  have l1 := later_allocR w (.cells #[.int .i64 0, .int .i64 0, .int .i64 0, .int .u32 0, .int .u16 0] 31)
  have B1 := hide (heap_alloc_new w (.cells #[.int .i64 0, .int .i64 0, .int .i64 0, .int .u32 0, .int .u16 0] 31))
  have HLN := hide (rline_any _ (l ++ [13, 10]) hB _ (hI.later l1))
  rw [h1] at HLN
  have HH := hide (fun W (lw : Later w W) => rhas_any bb off cp W.heap.size (l ++ [13, 10]) hB 0 tPort W (hI.later lw) (by omega) (by omega) (by decide))
  have HE := hide (fun W (lw : Later w W) => rhas_any bb off cp W.heap.size (l ++ [13, 10]) hB 0 tE1 W (hI.later lw) (by omega) (by omega) (by decide))
  rw [has_line l hB 0 (by omega) tPort cap_port (by decide), hp] at HH
  rw [has_line l hB 0 (by omega) tE1 cap_e1 (by decide)] at HE
  have HVL := hide hVl
  have HP := hide hp
  have HE1 := hide (tk_e1 l hBl)
  have HLL := hide hll
  have HLE := hide hlen
  have HRD := hide (fun W (lw : Later w W) => hI.later lw)
  have HBZ := hide hB
  have HBL := hide hBl
  obtain ⟨zl, hzl⟩ : ∃ zl, (l ++ [13, 10]).length = zl := ⟨_, rfl⟩
  have e1 : (zl : Int) - 2 = (l.length : Int) := by omega
  have gz : (zl : Int) ≤ 128 := by omega
  have GL : Hid ((l.length : Int) ≤ 126) := by show _ ≤ _; omega
  obtain ⟨V, hV⟩ : ∃ V, fndB (l ++ [13, 10]) false = V := ⟨_, rfl⟩
  have HVV : Hid (fnd l false = V) := by show _ = _; rw [← hVl]; exact hV
  rw [hV]
  rw [hzl] at HLN HH HE HRD ⊢
  have HZL := hide hzl
  clear hVl hp h1 hcr hll hlen hB hBl hI hV
  unfold tPort at HH
  unfold tE1 at HE
  clear hzl
  go_enter Tryd.func10, Tryd.ntmps10
  go_upto_region 1 with fail
  generalize w.alloc _ = w1 at *
  go_wp2_with fail
  refine HLN.out.mono ?_
  rintro e w2 ⟨rfl, rfl⟩
  clear HLN
  go_wp2_with fail
  refine (HH.out w2 l1).mono ?_
  rintro e w3 ⟨rfl, rfl⟩
  cases hE : tkB l 0 tE1 with
  | false =>
    rw [show tkB l 0 ⟨#[69, 80, 82, 84, 32, 124, 49, 124]⟩ = false from hE] at HE
    have HV : Hid (V = fdN) := by
      show _ = _
      rw [← HVV.out]
      have h9 := HE1.out
      rw [hE] at h9
      cases h8 : tkB l 0 tEprt with
      | false => exact fnd_e0 HP.out h8
      | true => rw [h8] at h9; rw [fnd_e2 HP.out h8]; exact fd2_no (by simpa using h9.symm)
    clear hE
    go_wp2_with fail
    refine (HE.out w3 l1).mono ?_
    rintro e w4 ⟨rfl, rfl⟩
    have B9 := B1.out
    have kR := block_cell B9
    have fR := block_frozen B9
    go_wp2_with fail
    generalize hV : (((((w4.setCell ⟨w.heap.size, 0, none⟩ _).setCell ⟨w.heap.size, 1, none⟩ _).setCell ⟨w.heap.size, 2, none⟩ _).setCell ⟨w.heap.size, 3, none⟩ _).setCell ⟨w.heap.size, 4, none⟩ _) = V8
    have hV9 : V8 = putRow w4 w.heap.size 0 [.int .i64 0, .int .i64 0, .int .i64 0, .int .u32 0, .int .u16 0] := hV.symm
    have hb8 : But (fun b => b = w.heap.size) w4 V8 := by rw [hV9]; exact putRow_but (E := fun b => b = w.heap.size) (n := w.heap.size) rfl _ _ _ _ (But.refl _ _)
    have p8 := putRow_all [.int .i64 0, .int .i64 0, .int .i64 0, .int .u32 0, .int .u16 0] B9 rfl
    rw [← hV9] at p8
    clear hV hV9 kR fR
    have P8 := block_cell p8
    have hw8 : Later w V8 := Below.trans l1 (hb8.below (Below.size l1) (fun k h e => by omega))
    exact bodyPost_ret (v := fdN) (by unfold fdN; simp [results, Tryd.results10, go_sem, P8]) rfl ⟨by rw [HV.out], hw8⟩
  | true =>
    rw [show tkB l 0 ⟨#[69, 80, 82, 84, 32, 124, 49, 124]⟩ = true from hE] at HE
    have h89 : tkB l 0 tEprt = true ∧ tkB l 5 tOne = true := by have h9 := HE1.out; rw [hE] at h9; simpa using h9.symm
    have h8l : 8 ≤ l.length := by have h9 : 0 + 8 ≤ l.length := tkB_le hE; omega
    have HF2 : Hid (V = fd2 l 5) := by
      show _ = _
      rw [← HVV.out]
      exact fnd_e2 HP.out h89.1
    have H1 := hide h89.2
    have hro : rowF (l ++ [13, 10]) tDot 4 0 8 = rowF l tDot 4 0 8 := row_line l [13, 10] HBZ.out 46 (by decide) (by decide) (by decide) 4 0 8 h8l
    have HAD := hide (rAddress_any bb off cp (l ++ [13, 10]) HBZ.out 8 w3 (by rw [HZL.out]; exact HRD.out w3 l1) (by rw [HZL.out]; omega) (by rw [HZL.out]; omega))
    rw [hro, HZL.out] at HAD
    obtain ⟨o, ho⟩ : ∃ o, rowF l tDot 4 0 8 = o := ⟨_, rfl⟩
    rw [ho] at HAD
    have HRO := hide ho
    clear hro hE h89 ho
    go_wp2_with fail
    refine (HE.out w3 l1).mono ?_
    rintro e w4 ⟨rfl, rfl⟩
    go_wp2_with fail
    refine HAD.out.mono ?_
    rintro e w5 ⟨l5, ⟨rfl, rfl⟩ | ⟨x, q, rfl, rfl⟩⟩
    · have L5 := l1.trans l5
      have B9 := later_keep l5 B1.out
      have HV : Hid (V = fdN) := by
        show _ = _
        rw [HF2.out]
        exact fd2_none H1.out HRO.out
      have kR := block_cell B9
      have fR := block_frozen B9
      go_wp2_with fail
      generalize hV : (((((w5.setCell ⟨w.heap.size, 0, none⟩ _).setCell ⟨w.heap.size, 1, none⟩ _).setCell ⟨w.heap.size, 2, none⟩ _).setCell ⟨w.heap.size, 3, none⟩ _).setCell ⟨w.heap.size, 4, none⟩ _) = V8
      have hV9 : V8 = putRow w5 w.heap.size 0 [.int .i64 0, .int .i64 0, .int .i64 0, .int .u32 0, .int .u16 0] := hV.symm
      have hb8 : But (fun b => b = w.heap.size) w5 V8 := by rw [hV9]; exact putRow_but (E := fun b => b = w.heap.size) (n := w.heap.size) rfl _ _ _ _ (But.refl _ _)
      have p8 := putRow_all [.int .i64 0, .int .i64 0, .int .i64 0, .int .u32 0, .int .u16 0] B9 rfl
      rw [← hV9] at p8
      clear hV hV9 kR fR
      have P8 := block_cell p8
      have hw8 : Later w V8 := Below.trans L5 (hb8.below (Below.size L5) (fun k h e => by omega))
      exact bodyPost_ret (v := fdN) (by unfold fdN; simp [results, Tryd.results10, go_sem, P8]) rfl ⟨by rw [HV.out], hw8⟩
    · have L5 := l1.trans l5
      have B5 := hide (later_keep l5 B1.out)
      have hql : q ≤ l.length := (rwT_was 46 (by decide) l HBL.out 4 0 8 x q h8l HRO.out).2.2
      have HF3 := hide (HF2.out.trans (fd2_some H1.out HRO.out))
      have hRq := HRD.out w5 L5
      have hcq : w5.cell? ⟨bb, off + q, none⟩ = some (.int .u8 ((l ++ [13, 10])[q]?.getD 0)) := by
        have h9 := hRq
        rw [← HZL.out] at h9
        exact h9.cellAt q (by have := HLL.out; omega)
      have hzq := Mt.By.at HBZ.out q
      have hba := bar_at l HBZ.out q hql
      have gq : (q : Int) < (zl : Int) := by have := HLL.out; have := HZL.out; omega
      generalize (l ++ [13, 10])[q]?.getD 0 = zq at *
      by_cases hb : zq = 124
      case neg =>
        have hb' : (zq != 124) = true := by simpa using hb
        have HV : Hid (V = fdN) := by show _ = _; rw [HF3.out, if_pos (by rw [hba, decide_eq_false hb])]
        have B9 := B5.out
        clear hba hb hRq
        have kR := block_cell B9
        have fR := block_frozen B9
        go_wp2_with fail
        generalize hV : (((((w5.setCell ⟨w.heap.size, 0, none⟩ _).setCell ⟨w.heap.size, 1, none⟩ _).setCell ⟨w.heap.size, 2, none⟩ _).setCell ⟨w.heap.size, 3, none⟩ _).setCell ⟨w.heap.size, 4, none⟩ _) = V8
        have hV9 : V8 = putRow w5 w.heap.size 0 [.int .i64 0, .int .i64 0, .int .i64 0, .int .u32 0, .int .u16 0] := hV.symm
        have hb8 : But (fun b => b = w.heap.size) w5 V8 := by rw [hV9]; exact putRow_but (E := fun b => b = w.heap.size) (n := w.heap.size) rfl _ _ _ _ (But.refl _ _)
        have p8 := putRow_all [.int .i64 0, .int .i64 0, .int .i64 0, .int .u32 0, .int .u16 0] B9 rfl
        rw [← hV9] at p8
        clear hV hV9 kR fR
        have P8 := block_cell p8
        have hw8 : Later w V8 := Below.trans L5 (hb8.below (Below.size L5) (fun k h e => by omega))
        exact bodyPost_ret (v := fdN) (by unfold fdN; simp [results, Tryd.results10, go_sem, P8]) rfl ⟨by rw [HV.out], hw8⟩
      subst hb
      have hq1 : q + 1 ≤ l.length := by
        have h9 : tkB l q tBar = true := by rw [hba]; rfl
        exact tkB_le h9
      have HBA := hide hba
      have hbn : ((124 : Int) != 124) = false := by decide
      have HNU := hide (rnumber_any bb off cp w5.heap.size (l ++ [13, 10]) HBZ.out (q + 1) 65535 w5 (by rw [HZL.out]; exact hRq) (by rw [HZL.out]; omega) (by rw [HLL.out]; omega) (by omega))
      rw [numD_is HBZ.out (by rw [HLL.out]; omega) (by omega), dgS_line l [13, 10] (by decide) (q + 1) hq1, dgZ_line l [13, 10] (by decide) _ (q + 1) rfl hq1, HZL.out] at HNU
      have LC := L5
      have BC := B5
      have hzz := (dgZ_le hq1).2
      have hcz : w5.cell? ⟨bb, off + dgZ l (q + 1), none⟩ = some (.int .u8 ((l ++ [13, 10])[dgZ l (q + 1)]?.getD 0)) := by
        have h9 := hRq
        rw [← HZL.out] at h9
        exact h9.cellAt _ (by have := HLL.out; omega)
      have hzb := Mt.By.at HBZ.out (dgZ l (q + 1))
      have hbz := hide (bar_at l HBZ.out (dgZ l (q + 1)) hzz)
      have HPV : Hid (portV l (q + 1) = (numV (dgS l (q + 1)) 65535).getD 0) := rfl
      have HPB : Hid (portB l (q + 1) = ((numV (dgS l (q + 1)) 65535).isSome && !decide ((numV (dgS l (q + 1)) 65535).getD 0 = 0))) := rfl
      have HRG := hide (numV_rng (dgS l (q + 1)) 65535 (by omega))
      clear hba hRq
      cases hv : numV (dgS l (q + 1)) 65535 with
      | none =>
        rw [hv] at HNU HPB
        have HV : Hid (V = fdN) := by show _ = _; rw [HF3.out, if_neg (by rw [HBA.out]; simp), if_pos (by rw [HPB.out]; rfl)]
        simp only [Option.map_none, Option.getD_none, Option.isSome_none] at HNU
        clear hv hcz
        go_wp2_with fail
        refine HNU.out.mono ?_
        rintro e w6 ⟨rfl, rfl⟩
        go_wp2_with fail
        refine (rfound_any 2 5 ((q + 1 : Nat) + 1 : Int) (wat4 x 0) 0 false w6).mono ?_
        rw [if_neg (by simp)]
        unfold fdN
        rintro e w9 ⟨rfl, l9⟩
        have L9 := LC.trans l9
        have B9 := later_keep l9 BC.out
        have kR := block_cell B9
        have fR := block_frozen B9
        go_wp2_with fail
        generalize hV : (((((w9.setCell ⟨w.heap.size, 0, none⟩ _).setCell ⟨w.heap.size, 1, none⟩ _).setCell ⟨w.heap.size, 2, none⟩ _).setCell ⟨w.heap.size, 3, none⟩ _).setCell ⟨w.heap.size, 4, none⟩ _) = V8
        have hV9 : V8 = putRow w9 w.heap.size 0 [.int .i64 0, .int .i64 0, .int .i64 0, .int .u32 0, .int .u16 0] := hV.symm
        have hb8 : But (fun b => b = w.heap.size) w9 V8 := by rw [hV9]; exact putRow_but (E := fun b => b = w.heap.size) (n := w.heap.size) rfl _ _ _ _ (But.refl _ _)
        have p8 := putRow_all [.int .i64 0, .int .i64 0, .int .i64 0, .int .u32 0, .int .u16 0] B9 rfl
        rw [← hV9] at p8
        clear hV hV9 kR fR
        have P8 := block_cell p8
        have hw8 : Later w V8 := Below.trans L9 (hb8.below (Below.size L9) (fun k h e => by omega))
        exact bodyPost_ret (v := fdN) (by unfold fdN; simp [results, Tryd.results10, go_sem, P8]) rfl ⟨by rw [HV.out], hw8⟩
      | some v =>
        rw [hv] at HNU HPB HPV HRG
        obtain ⟨v1, v2⟩ : 0 ≤ v ∧ v ≤ 65535 := HRG.out
        simp only [Option.map_some, Option.getD_some, Option.isSome_some, Bool.true_and] at HNU HPB HPV
        have HF4 : Hid (V = if (!decide (v = 0)) = false then fdN else if tkB l (dgZ l (q + 1)) tBar = false then fdN else if dgZ l (q + 1) + 1 = l.length then fdY 2 5 ((dgZ l (q + 1) + 1 : Nat) : Int) (wat4 x 0) v else fdN) := by show _ = _; rw [HF3.out, if_neg (by rw [HBA.out]; simp), HPB.out, HPV.out]
        rw [hbz.out] at HF4
        have gzz : ((dgZ l (q + 1) : Nat) : Int) < (zl : Int) := by have := HLL.out; have := HZL.out; omega
        generalize dgZ l (q + 1) = z at *
        generalize (l ++ [13, 10])[z]?.getD 0 = zc at *
        clear hv HPB HPV HRG hbz
        by_cases h0 : v = 0
        · have HV : Hid (V = fdN) := by show _ = _; rw [HF4.out, if_pos (by simp [h0])]
          subst h0
          go_wp2_with fail
          refine HNU.out.mono ?_
          rintro e w6 ⟨rfl, rfl⟩
          go_wp2_with fail
          refine (rfound_any 2 5 ((z : Int) + 1) (wat4 x 0) 0 false w6).mono ?_
          rw [if_neg (by simp)]
          unfold fdN
          rintro e w9 ⟨rfl, l9⟩
          have L9 := LC.trans l9
          have B9 := later_keep l9 BC.out
          have kR := block_cell B9
          have fR := block_frozen B9
          go_wp2_with fail
          generalize hV : (((((w9.setCell ⟨w.heap.size, 0, none⟩ _).setCell ⟨w.heap.size, 1, none⟩ _).setCell ⟨w.heap.size, 2, none⟩ _).setCell ⟨w.heap.size, 3, none⟩ _).setCell ⟨w.heap.size, 4, none⟩ _) = V8
          have hV9 : V8 = putRow w9 w.heap.size 0 [.int .i64 0, .int .i64 0, .int .i64 0, .int .u32 0, .int .u16 0] := hV.symm
          have hb8 : But (fun b => b = w.heap.size) w9 V8 := by rw [hV9]; exact putRow_but (E := fun b => b = w.heap.size) (n := w.heap.size) rfl _ _ _ _ (But.refl _ _)
          have p8 := putRow_all [.int .i64 0, .int .i64 0, .int .i64 0, .int .u32 0, .int .u16 0] B9 rfl
          rw [← hV9] at p8
          clear hV hV9 kR fR
          have P8 := block_cell p8
          have hw8 : Later w V8 := Below.trans L9 (hb8.below (Below.size L9) (fun k h e => by omega))
          exact bodyPost_ret (v := fdN) (by unfold fdN; simp [results, Tryd.results10, go_sem, P8]) rfl ⟨by rw [HV.out], hw8⟩
        have v3 : (0 : Int) < v := by omega
        by_cases hc : zc = 124
        case neg =>
          have HV : Hid (V = fdN) := by show _ = _; rw [HF4.out, if_neg (by simp [h0]), if_pos (by simp [hc])]
          have hc' : (zc == 124) = false := by simpa using hc
          clear hc h0
          go_wp2_with fail
          refine HNU.out.mono ?_
          rintro e w6 ⟨rfl, rfl⟩
          go_wp2_with fail
          refine (rfound_any 2 5 ((z : Int) + 1) (wat4 x 0) v false w6).mono ?_
          rw [if_neg (by simp)]
          unfold fdN
          rintro e w9 ⟨rfl, l9⟩
          have L9 := LC.trans l9
          have B9 := later_keep l9 BC.out
          have kR := block_cell B9
          have fR := block_frozen B9
          go_wp2_with fail
          generalize hV : (((((w9.setCell ⟨w.heap.size, 0, none⟩ _).setCell ⟨w.heap.size, 1, none⟩ _).setCell ⟨w.heap.size, 2, none⟩ _).setCell ⟨w.heap.size, 3, none⟩ _).setCell ⟨w.heap.size, 4, none⟩ _) = V8
          have hV9 : V8 = putRow w9 w.heap.size 0 [.int .i64 0, .int .i64 0, .int .i64 0, .int .u32 0, .int .u16 0] := hV.symm
          have hb8 : But (fun b => b = w.heap.size) w9 V8 := by rw [hV9]; exact putRow_but (E := fun b => b = w.heap.size) (n := w.heap.size) rfl _ _ _ _ (But.refl _ _)
          have p8 := putRow_all [.int .i64 0, .int .i64 0, .int .i64 0, .int .u32 0, .int .u16 0] B9 rfl
          rw [← hV9] at p8
          clear hV hV9 kR fR
          have P8 := block_cell p8
          have hw8 : Later w V8 := Below.trans L9 (hb8.below (Below.size L9) (fun k h e => by omega))
          exact bodyPost_ret (v := fdN) (by unfold fdN; simp [results, Tryd.results10, go_sem, P8]) rfl ⟨by rw [HV.out], hw8⟩
        subst hc
        by_cases hn : z + 1 = l.length
        · have HV : Hid (V = fdY 2 5 ((z : Int) + 1) (wat4 x 0) v) := by show _ = _; rw [HF4.out, if_neg (by simp [h0]), if_neg (by simp), if_pos hn]; rfl
          have hn' : ((z : Int) + 1 == (l.length : Int)) = true := by simp; omega
          clear hn h0
          go_wp2_with fail
          refine HNU.out.mono ?_
          rintro e w6 ⟨rfl, rfl⟩
          go_wp2_with fail
          refine (rfound_any 2 5 ((z : Int) + 1) (wat4 x 0) v true w6).mono ?_
          rw [if_pos rfl]
          unfold fdY
          rintro e w9 ⟨rfl, l9⟩
          have L9 := LC.trans l9
          have B9 := later_keep l9 BC.out
          have kR := block_cell B9
          have fR := block_frozen B9
          go_wp2_with fail
          generalize hV : (((((w9.setCell ⟨w.heap.size, 0, none⟩ _).setCell ⟨w.heap.size, 1, none⟩ _).setCell ⟨w.heap.size, 2, none⟩ _).setCell ⟨w.heap.size, 3, none⟩ _).setCell ⟨w.heap.size, 4, none⟩ _) = V8
          have hV9 : V8 = putRow w9 w.heap.size 0 [.int .i64 2, .int .i64 5, .int .i64 ((z : Int) + 1), .int .u32 (wat4 x 0), .int .u16 v] := hV.symm
          have hb8 : But (fun b => b = w.heap.size) w9 V8 := by rw [hV9]; exact putRow_but (E := fun b => b = w.heap.size) (n := w.heap.size) rfl _ _ _ _ (But.refl _ _)
          have p8 := putRow_all [.int .i64 2, .int .i64 5, .int .i64 ((z : Int) + 1), .int .u32 (wat4 x 0), .int .u16 v] B9 rfl
          rw [← hV9] at p8
          clear hV hV9 kR fR
          have P8 := block_cell p8
          have hw8 : Later w V8 := Below.trans L9 (hb8.below (Below.size L9) (fun k h e => by omega))
          exact bodyPost_ret (v := fdY 2 5 ((z : Int) + 1) (wat4 x 0) v) (by unfold fdY; simp [results, Tryd.results10, go_sem, P8]) rfl ⟨by rw [HV.out], hw8⟩
        · have HV : Hid (V = fdN) := by show _ = _; rw [HF4.out, if_neg (by simp [h0]), if_neg (by simp), if_neg hn]
          have hn' : ((z : Int) + 1 == (l.length : Int)) = false := by simp; omega
          clear hn h0
          go_wp2_with fail
          refine HNU.out.mono ?_
          rintro e w6 ⟨rfl, rfl⟩
          go_wp2_with fail
          refine (rfound_any 2 5 ((z : Int) + 1) (wat4 x 0) v false w6).mono ?_
          rw [if_neg (by simp)]
          unfold fdN
          rintro e w9 ⟨rfl, l9⟩
          have L9 := LC.trans l9
          have B9 := later_keep l9 BC.out
          have kR := block_cell B9
          have fR := block_frozen B9
          go_wp2_with fail
          generalize hV : (((((w9.setCell ⟨w.heap.size, 0, none⟩ _).setCell ⟨w.heap.size, 1, none⟩ _).setCell ⟨w.heap.size, 2, none⟩ _).setCell ⟨w.heap.size, 3, none⟩ _).setCell ⟨w.heap.size, 4, none⟩ _) = V8
          have hV9 : V8 = putRow w9 w.heap.size 0 [.int .i64 0, .int .i64 0, .int .i64 0, .int .u32 0, .int .u16 0] := hV.symm
          have hb8 : But (fun b => b = w.heap.size) w9 V8 := by rw [hV9]; exact putRow_but (E := fun b => b = w.heap.size) (n := w.heap.size) rfl _ _ _ _ (But.refl _ _)
          have p8 := putRow_all [.int .i64 0, .int .i64 0, .int .i64 0, .int .u32 0, .int .u16 0] B9 rfl
          rw [← hV9] at p8
          clear hV hV9 kR fR
          have P8 := block_cell p8
          have hw8 : Later w V8 := Below.trans L9 (hb8.below (Below.size L9) (fun k h e => by omega))
          exact bodyPost_ret (v := fdN) (by unfold fdN; simp [results, Tryd.results10, go_sem, P8]) rfl ⟨by rw [HV.out], hw8⟩
end Go.Proofs.YtjkhblfgadnjfaaDoor

/- The document's Find of a 229. -/
namespace Go.Proofs.YtjkhblfgadnjfaaDoor
open Go.RowKit Go.Shelf
set_option maxRecDepth 100000
set_option linter.unusedVariables false
set_option linter.unusedSimpArgs false

theorem fnd_b0 {l : List Int} (hp : tkB l 0 t227 = false) (he : tkB l 0 t229 = false) : fnd l true = fdN := by
  have hk : kdV l 0 true = (0, 0) := by unfold kdV; rw [if_neg (by simp), if_neg (by rw [hp]; simp), if_neg (by rw [he]; simp)]
  unfold fnd
  rw [hk]
  rfl
theorem fnd_b4 {l : List Int} (hp : tkB l 0 t227 = false) (he : tkB l 0 t229 = true) : fnd l true = fd4 l 4 := by
  have hk : kdV l 0 true = (4, 4) := by unfold kdV; rw [if_neg (by simp), if_neg (by rw [hp]; simp), if_pos he]
  unfold fnd
  rw [hk]
  rfl
theorem fnd_b3 {l : List Int} (hp : tkB l 0 t227 = true) : fnd l true = fd3 l 4 := by
  have hk : kdV l 0 true = (3, 4) := by unfold kdV; rw [if_neg (by simp), if_pos hp]
  unfold fnd
  rw [hk]
  rfl
theorem four_no {l : List Int} (hB : Mt.By l) {t : ByteArray} (ht : ∀ z ∈ nmsB t, NL z) (h4 : t.size = 4) (hn : 40 ∉ nmsB t) (h : tkB l 0 t = true) : 4 ≤ l.length ∧ 40 ∉ l.take 4 := by
  have hl := tkB_le h
  have e := (tk_iff l hB 0 t ht (by omega)).1 h
  rw [List.drop_zero] at e
  refine ⟨by omega, ?_⟩
  rw [e, ← h4, ← nmsB_len, List.take_left]
  exact hn
/-- Where the bracket is. -/
theorem brk_at {l : List Int} (hB : Mt.By l) (h : 0 ≤ pst l 4 40) (h4 : 4 ≤ l.length) : ∃ d : Nat, pst l 4 40 = (d : Int) ∧ p40 l 4 = 4 + d + 1 ∧ 4 + d + 1 ≤ l.length ∧ l[4 + d]?.getD 0 = 40 := by
  obtain ⟨a, b, e1, e2, e3⟩ := ix_was (l.drop 4) (fun z hz => hB z (List.mem_of_mem_drop hz)) (by unfold pst at h; exact h)
  have hp : pst l 4 40 = (a.length : Int) := e2.symm
  have hlen := congrArg List.length e1
  rw [List.length_drop, List.length_append, List.length_cons] at hlen
  refine ⟨a.length, hp, by unfold p40; rw [hp]; omega, by omega, ?_⟩
  have h5 : (l.drop 4)[a.length]? = l[4 + a.length]? := List.getElem?_drop
  rw [← h5, e1, List.getElem?_append_right (Nat.le_refl _), Nat.sub_self]
  rfl
theorem op4_at {l : List Int} (hB : Mt.By l) {p : Nat} (hp : p < l.length) (h : l[p]?.getD 0 = 40) : tkB l p tOp4 = tkB l (p + 1) tBars := by
  have key : tkB l p tOp4 = true ↔ tkB l (p + 1) tBars = true := by
    rw [tkB_iff l hB, tkB_iff l hB]
    have s1 : tOp4.size = 4 := rfl
    have s2 : tBars.size = 3 := rfl
    rw [s1, s2]
    constructor
    · rintro ⟨h1, h2⟩
      refine ⟨by omega, fun j hj => ?_⟩
      have := h2 (j + 1) (by omega)
      rw [show p + (j + 1) = p + 1 + j by omega] at this
      rw [this]
      rcases (show j = 0 ∨ j = 1 ∨ j = 2 by omega) with rfl | rfl | rfl <;> rfl
    · rintro ⟨h1, h2⟩
      refine ⟨by omega, fun j hj => ?_⟩
      by_cases h0 : j = 0
      · subst h0; rw [Nat.add_zero, h]; rfl
      · have := h2 (j - 1) (by omega)
        rw [show p + 1 + (j - 1) = p + j by omega] at this
        rw [this]
        rcases (show j = 1 ∨ j = 2 ∨ j = 3 by omega) with rfl | rfl | rfl <;> rfl
  cases h1 : tkB l p tOp4 <;> cases h2 : tkB l (p + 1) tBars <;> simp_all
theorem fd4_neg {l : List Int} (h : pst l 4 40 < 0) : fd4 l 4 = fdN := by unfold fd4; rw [if_pos h]
theorem fd4_at {l : List Int} {q : Nat} (h : ¬ pst l 4 40 < 0) (hq : p40 l 4 = q) : fd4 l 4 = if tkB l q tBars = false then fdN else if portB l (q + 3) = false then fdN else if tkB l (dgZ l (q + 3)) tEnd4 = false then fdN else fdY 4 ((q + 3 : Nat) : Int) (dgZ l (q + 3) : Nat) 0 (portV l (q + 3)) := by unfold fd4; rw [if_neg h, hq]

set_option maxHeartbeats 8000000 in
theorem rfind_229 (bb off cp : Nat) (l : List Int) (w : World) (hB : Mt.By (l ++ [13, 10])) (hI : Rd w.heap.size w (.slice (some ⟨bb, off, none⟩) (l ++ [13, 10]).length cp) (l ++ [13, 10])) (h1 : oneL (l ++ [13, 10]) = true) (hp : tkB l 0 t227 = false) :
    Calls Tryd.prog 10 #[.slice (some ⟨bb, off, none⟩) (l ++ [13, 10]).length cp, .bool true] w fun e w' => e = .returned (fndB (l ++ [13, 10]) true) ∧ Later w w' := by
  have hlen := oneL_len h1
  have hBl := (by_app hB).1
  have hll : (l ++ [13, 10]).length = l.length + 2 := by simp
  have hcr : crl l = false := by
    have := oneL_mk l
    rw [h1] at this
    simp only [Bool.true_eq, Bool.and_eq_true, decide_eq_true_eq, Bool.not_eq_true'] at this
    exact this.2
  have hVl : fndB (l ++ [13, 10]) true = fnd l true := fndB_line true hcr (by omega)
  have l1 := later_allocR w (.cells #[.int .i64 0, .int .i64 0, .int .i64 0, .int .u32 0, .int .u16 0] 31)
  have B1 := hide (heap_alloc_new w (.cells #[.int .i64 0, .int .i64 0, .int .i64 0, .int .u32 0, .int .u16 0] 31))
  have HLN := hide (rline_any _ (l ++ [13, 10]) hB _ (hI.later l1))
  rw [h1] at HLN
  have HVL := hide hVl
  have HP := hide hp
  have HLL := hide hll
  have HRD := hide (fun W (lw : Later w W) => hI.later lw)
  have HBB : Hid (bb < w.heap.size) := by
    obtain ⟨b', o', c', e', _, _, h', _⟩ := hI.cells (by omega)
    simp at e'
    show bb < _
    omega
  have HBZ := hide hB
  have HBL := hide hBl
  have HH := hide (fun W (lw : Later w W) => rhas_any bb off cp W.heap.size (l ++ [13, 10]) hB 0 t227 W (hI.later lw) (by omega) (by omega) (by decide))
  have HE := hide (fun W (lw : Later w W) => rhas_any bb off cp W.heap.size (l ++ [13, 10]) hB 0 t229 W (hI.later lw) (by omega) (by omega) (by decide))
  have HOP := hide (fun W (lw : Later w W) => ropen_any bb off cp W.heap.size (l ++ [13, 10]) 0 W (hI.later lw) (by omega) (by omega))
  rw [has_line l hB 0 (by omega) t227 cap_227 (by decide), hp] at HH
  rw [has_line l hB 0 (by omega) t229 cap_229 (by decide)] at HE
  obtain ⟨zl, hzl⟩ : ∃ zl, (l ++ [13, 10]).length = zl := ⟨_, rfl⟩
  have e1 : (zl : Int) - 2 = (l.length : Int) := by omega
  have gz : (zl : Int) ≤ 128 := by omega
  have GL : Hid (l.length ≤ 126) := by show _ ≤ _; omega
  obtain ⟨V, hV⟩ : ∃ V, fndB (l ++ [13, 10]) true = V := ⟨_, rfl⟩
  have HVV : Hid (fnd l true = V) := by show _ = _; rw [← hVl]; exact hV
  rw [hV]
  rw [hzl] at HLN HH HE HRD HOP ⊢
  have HZL := hide hzl
  clear hVl hp h1 hcr hll hlen hB hBl hI hV
  unfold t227 at HH
  unfold t229 at HE
  obtain ⟨ov, hov⟩ : ∃ ov, opV (l ++ [13, 10]) 0 = ov := ⟨_, rfl⟩
  rw [hov] at HOP
  have HOV := hide hov
  clear hov hzl
  go_enter Tryd.func10, Tryd.ntmps10
  go_upto_region 1 with fail
  generalize w.alloc _ = w1 at *
  go_wp2_with fail
  refine HLN.out.mono ?_
  rintro e w2 ⟨rfl, rfl⟩
  clear HLN
  go_wp2_with fail
  refine (HOP.out w2 l1).mono ?_
  rintro e w3 ⟨rfl, rfl⟩
  go_wp2_with fail
  refine (HH.out w3 l1).mono ?_
  rintro e w4 ⟨rfl, rfl⟩
  clear HH HOP
  cases hE : tkB l 0 t229 with
  | false =>
    rw [show tkB l 0 ⟨#[50, 50, 57, 32]⟩ = false from hE] at HE
    have HV : Hid (V = fdN) := by show _ = _; rw [← HVV.out]; exact fnd_b0 HP.out hE
    clear hE
    go_wp2_with fail
    refine (HE.out w4 l1).mono ?_
    rintro e w5 ⟨rfl, rfl⟩
    have B9 := B1.out
    have kR := block_cell B9
    have fR := block_frozen B9
    go_wp2_with fail
    generalize hV : (((((w5.setCell ⟨w.heap.size, 0, none⟩ _).setCell ⟨w.heap.size, 1, none⟩ _).setCell ⟨w.heap.size, 2, none⟩ _).setCell ⟨w.heap.size, 3, none⟩ _).setCell ⟨w.heap.size, 4, none⟩ _) = V8
    have hV9 : V8 = putRow w5 w.heap.size 0 [.int .i64 0, .int .i64 0, .int .i64 0, .int .u32 0, .int .u16 0] := hV.symm
    have hb8 : But (fun b => b = w.heap.size) w5 V8 := by rw [hV9]; exact putRow_but (E := fun b => b = w.heap.size) (n := w.heap.size) rfl _ _ _ _ (But.refl _ _)
    have p8 := putRow_all [.int .i64 0, .int .i64 0, .int .i64 0, .int .u32 0, .int .u16 0] B9 rfl
    rw [← hV9] at p8
    clear hV hV9 kR fR
    have P8 := block_cell p8
    have hw8 : Later w V8 := Below.trans l1 (hb8.below (Below.size l1) (fun k h e => by omega))
    exact bodyPost_ret (v := fdN) (by unfold fdN; simp [results, Tryd.results10, go_sem, P8]) rfl ⟨by rw [HV.out], hw8⟩
  | true =>
    rw [show tkB l 0 ⟨#[50, 50, 57, 32]⟩ = true from hE] at HE
    obtain ⟨h4, h40⟩ := four_no HBL.out nl_229 rfl (by decide) hE
    have hop := (HOV.out.symm.trans (op_line l HBL.out h4 h40))
    have HF4 : Hid (V = fd4 l 4) := by show _ = _; rw [← HVV.out]; exact fnd_b4 HP.out hE
    clear hE h40
    by_cases hps : pst l 4 40 < 0
    · rw [if_pos hps] at hop
      have HV : Hid (V = fdN) := by show _ = _; rw [HF4.out]; exact fd4_neg hps
      subst hop
      clear hps h4
      go_wp2_with fail
      refine (HE.out w4 l1).mono ?_
      rintro e w5 ⟨rfl, rfl⟩
      have B9 := B1.out
      have kR := block_cell B9
      have fR := block_frozen B9
      go_wp2_with fail
      generalize hV : (((((w5.setCell ⟨w.heap.size, 0, none⟩ _).setCell ⟨w.heap.size, 1, none⟩ _).setCell ⟨w.heap.size, 2, none⟩ _).setCell ⟨w.heap.size, 3, none⟩ _).setCell ⟨w.heap.size, 4, none⟩ _) = V8
      have hV9 : V8 = putRow w5 w.heap.size 0 [.int .i64 0, .int .i64 0, .int .i64 0, .int .u32 0, .int .u16 0] := hV.symm
      have hb8 : But (fun b => b = w.heap.size) w5 V8 := by rw [hV9]; exact putRow_but (E := fun b => b = w.heap.size) (n := w.heap.size) rfl _ _ _ _ (But.refl _ _)
      have p8 := putRow_all [.int .i64 0, .int .i64 0, .int .i64 0, .int .u32 0, .int .u16 0] B9 rfl
      rw [← hV9] at p8
      clear hV hV9 kR fR
      have P8 := block_cell p8
      have hw8 : Later w V8 := Below.trans l1 (hb8.below (Below.size l1) (fun k h e => by omega))
      exact bodyPost_ret (v := fdN) (by unfold fdN; simp [results, Tryd.results10, go_sem, P8]) rfl ⟨by rw [HV.out], hw8⟩
    · rw [if_neg hps] at hop
      obtain ⟨d, d1, d2, d3, d4⟩ := brk_at HBL.out (by omega) h4
      have HF5 := hide (HF4.out.trans (fd4_at hps d2))
      rw [d1] at hop
      have hov4 : ov = ((4 + d : Nat) : Int) := by omega
      subst hov4
      have hge : (4 : Int) ≤ ((4 + d : Nat) : Int) := by omega
      have HHB := hide (rhas_any bb off cp w4.heap.size (l ++ [13, 10]) HBZ.out (4 + d) tOp4 w4 (by rw [HZL.out]; exact HRD.out w4 l1) (by rw [HZL.out]; omega) (by have := GL.out; omega) (by decide))
      rw [has_line l HBZ.out (4 + d) (by omega) tOp4 cap_op4 (by decide), op4_at HBL.out (by omega) d4, HZL.out] at HHB
      clear hps d1 d2 d4 hop h4
      unfold tOp4 at HHB
      cases hb : tkB l (4 + d + 1) tBars with
      | false =>
        rw [hb] at HHB
        have HV : Hid (V = fdN) := by show _ = _; rw [HF5.out, if_pos hb]
        clear hb
        go_wp2_with fail
        refine (HE.out w4 l1).mono ?_
        rintro e w5 ⟨rfl, rfl⟩
        go_wp2_with fail
        refine HHB.out.mono ?_
        rintro e w6 ⟨rfl, rfl⟩
        have B9 := B1.out
        have kR := block_cell B9
        have fR := block_frozen B9
        go_wp2_with fail
        generalize hV : (((((w6.setCell ⟨w.heap.size, 0, none⟩ _).setCell ⟨w.heap.size, 1, none⟩ _).setCell ⟨w.heap.size, 2, none⟩ _).setCell ⟨w.heap.size, 3, none⟩ _).setCell ⟨w.heap.size, 4, none⟩ _) = V8
        have hV9 : V8 = putRow w6 w.heap.size 0 [.int .i64 0, .int .i64 0, .int .i64 0, .int .u32 0, .int .u16 0] := hV.symm
        have hb8 : But (fun b => b = w.heap.size) w6 V8 := by rw [hV9]; exact putRow_but (E := fun b => b = w.heap.size) (n := w.heap.size) rfl _ _ _ _ (But.refl _ _)
        have p8 := putRow_all [.int .i64 0, .int .i64 0, .int .i64 0, .int .u32 0, .int .u16 0] B9 rfl
        rw [← hV9] at p8
        clear hV hV9 kR fR
        have P8 := block_cell p8
        have hw8 : Later w V8 := Below.trans l1 (hb8.below (Below.size l1) (fun k h e => by omega))
        exact bodyPost_ret (v := fdN) (by unfold fdN; simp [results, Tryd.results10, go_sem, P8]) rfl ⟨by rw [HV.out], hw8⟩
      | true =>
        rw [hb] at HHB
        have hq3 : 4 + d + 1 + 3 ≤ l.length := tkB_le hb
        have HF6 : Hid (V = if portB l (4 + d + 1 + 3) = false then fdN else if tkB l (dgZ l (4 + d + 1 + 3)) tEnd4 = false then fdN else fdY 4 ((4 + d + 1 + 3 : Nat) : Int) (dgZ l (4 + d + 1 + 3) : Nat) 0 (portV l (4 + d + 1 + 3))) := by show _ = _; rw [HF5.out, if_neg (by rw [hb]; simp)]
        clear hb
        rw [show 4 + d + 1 + 3 = 4 + d + 4 from rfl] at HF6 hq3
        generalize 4 + d = a0 at *
        have HNU := hide (rnumber_any bb off cp w4.heap.size (l ++ [13, 10]) HBZ.out (a0 + 4) 65535 w4 (by rw [HZL.out]; exact HRD.out w4 l1) (by rw [HZL.out]; omega) (by rw [HLL.out]; omega) (by omega))
        rw [numD_is HBZ.out (by rw [HLL.out]; omega) (by omega), dgS_line l [13, 10] (by decide) (a0 + 4) hq3, dgZ_line l [13, 10] (by decide) _ (a0 + 4) rfl hq3, HZL.out] at HNU
        have LC : Later w w4 := l1
        have BC := B1
        have hzz := (dgZ_le hq3).2
        have HHE := hide (rhas_any bb off cp w4.heap.size (l ++ [13, 10]) HBZ.out (dgZ l (a0 + 4)) tEnd4 w4 (by rw [HZL.out]; exact HRD.out w4 l1) (by rw [HZL.out]; omega) (by have := GL.out; omega) (by decide))
        rw [has_line l HBZ.out (dgZ l (a0 + 4)) hzz tEnd4 cap_end4 (by decide), HZL.out] at HHE
        have HPV : Hid (portV l (a0 + 4) = (numV (dgS l (a0 + 4)) 65535).getD 0) := rfl
        have HPB : Hid (portB l (a0 + 4) = ((numV (dgS l (a0 + 4)) 65535).isSome && !decide ((numV (dgS l (a0 + 4)) 65535).getD 0 = 0))) := rfl
        have HRG := hide (numV_rng (dgS l (a0 + 4)) 65535 (by omega))
        have ga : (a0 : Int) ≤ 1000 := by have := GL.out; omega
        clear d3
        unfold tEnd4 at HHE
        cases hv : numV (dgS l (a0 + 4)) 65535 with
        | none =>
          rw [hv] at HNU HPB
          have HV : Hid (V = fdN) := by show _ = _; rw [HF6.out, if_pos (by rw [HPB.out]; rfl)]
          simp only [Option.map_none, Option.getD_none, Option.isSome_none] at HNU
          clear hv
          go_wp2_with fail
          refine (HE.out w4 l1).mono ?_
          rintro e w5 ⟨rfl, rfl⟩
          go_wp2_with fail
          refine HHB.out.mono ?_
          rintro e w6 ⟨rfl, rfl⟩
          go_wp2_with fail
          refine HNU.out.mono ?_
          rintro e w7 ⟨rfl, rfl⟩
          go_wp2_with fail
          refine (rfound_any 4 ((a0 : Int) + 4) ((a0 + 4 : Nat) : Int) 0 0 false w7).mono ?_
          rw [if_neg (by simp)]
          unfold fdN
          rintro e w9 ⟨rfl, l9⟩
          have L9 := LC.trans l9
          have B9 := later_keep l9 BC.out
          have kR := block_cell B9
          have fR := block_frozen B9
          go_wp2_with fail
          generalize hV : (((((w9.setCell ⟨w.heap.size, 0, none⟩ _).setCell ⟨w.heap.size, 1, none⟩ _).setCell ⟨w.heap.size, 2, none⟩ _).setCell ⟨w.heap.size, 3, none⟩ _).setCell ⟨w.heap.size, 4, none⟩ _) = V8
          have hV9 : V8 = putRow w9 w.heap.size 0 [.int .i64 0, .int .i64 0, .int .i64 0, .int .u32 0, .int .u16 0] := hV.symm
          have hb8 : But (fun b => b = w.heap.size) w9 V8 := by rw [hV9]; exact putRow_but (E := fun b => b = w.heap.size) (n := w.heap.size) rfl _ _ _ _ (But.refl _ _)
          have p8 := putRow_all [.int .i64 0, .int .i64 0, .int .i64 0, .int .u32 0, .int .u16 0] B9 rfl
          rw [← hV9] at p8
          clear hV hV9 kR fR
          have P8 := block_cell p8
          have hw8 : Later w V8 := Below.trans L9 (hb8.below (Below.size L9) (fun k h e => by omega))
          exact bodyPost_ret (v := fdN) (by unfold fdN; simp [results, Tryd.results10, go_sem, P8]) rfl ⟨by rw [HV.out], hw8⟩
        | some v =>
          rw [hv] at HNU HPB HPV HRG
          obtain ⟨v1, v2⟩ : 0 ≤ v ∧ v ≤ 65535 := HRG.out
          simp only [Option.map_some, Option.getD_some, Option.isSome_some, Bool.true_and] at HNU HPB HPV
          have HF7 : Hid (V = if (!decide (v = 0)) = false then fdN else if tkB l (dgZ l (a0 + 4)) tEnd4 = false then fdN else fdY 4 ((a0 + 4 : Nat) : Int) (dgZ l (a0 + 4) : Nat) 0 v) := by show _ = _; rw [HF6.out, HPB.out, HPV.out]
          generalize dgZ l (a0 + 4) = z at *
          clear hv HPB HPV HRG HF6
          by_cases h0 : v = 0
          · have HV : Hid (V = fdN) := by show _ = _; rw [HF7.out, if_pos (by simp [h0])]
            subst h0
            go_wp2_with fail
            refine (HE.out w4 l1).mono ?_
            rintro e w5 ⟨rfl, rfl⟩
            go_wp2_with fail
            refine HHB.out.mono ?_
            rintro e w6 ⟨rfl, rfl⟩
            go_wp2_with fail
            refine HNU.out.mono ?_
            rintro e w7 ⟨rfl, rfl⟩
            go_wp2_with fail
            refine (rfound_any 4 ((a0 : Int) + 4) (z : Int) 0 0 false w7).mono ?_
            rw [if_neg (by simp)]
            unfold fdN
            rintro e w9 ⟨rfl, l9⟩
            have L9 := LC.trans l9
            have B9 := later_keep l9 BC.out
            have kR := block_cell B9
            have fR := block_frozen B9
            go_wp2_with fail
            generalize hV : (((((w9.setCell ⟨w.heap.size, 0, none⟩ _).setCell ⟨w.heap.size, 1, none⟩ _).setCell ⟨w.heap.size, 2, none⟩ _).setCell ⟨w.heap.size, 3, none⟩ _).setCell ⟨w.heap.size, 4, none⟩ _) = V8
            have hV9 : V8 = putRow w9 w.heap.size 0 [.int .i64 0, .int .i64 0, .int .i64 0, .int .u32 0, .int .u16 0] := hV.symm
            have hb8 : But (fun b => b = w.heap.size) w9 V8 := by rw [hV9]; exact putRow_but (E := fun b => b = w.heap.size) (n := w.heap.size) rfl _ _ _ _ (But.refl _ _)
            have p8 := putRow_all [.int .i64 0, .int .i64 0, .int .i64 0, .int .u32 0, .int .u16 0] B9 rfl
            rw [← hV9] at p8
            clear hV hV9 kR fR
            have P8 := block_cell p8
            have hw8 : Later w V8 := Below.trans L9 (hb8.below (Below.size L9) (fun k h e => by omega))
            exact bodyPost_ret (v := fdN) (by unfold fdN; simp [results, Tryd.results10, go_sem, P8]) rfl ⟨by rw [HV.out], hw8⟩
          have v3 : (0 : Int) < v := by omega
          cases hc : tkB l z ⟨#[124, 41]⟩ with
          | false =>
            rw [hc] at HHE
            have HV : Hid (V = fdN) := by show _ = _; rw [HF7.out, if_neg (by simp [h0]), if_pos (show tkB l z tEnd4 = false from hc)]
            clear hc h0
            go_wp2_with fail
            refine (HE.out w4 l1).mono ?_
            rintro e w5 ⟨rfl, rfl⟩
            go_wp2_with fail
            refine HHB.out.mono ?_
            rintro e w6 ⟨rfl, rfl⟩
            go_wp2_with fail
            refine HNU.out.mono ?_
            rintro e w7 ⟨rfl, rfl⟩
            go_wp2_with fail
            refine HHE.out.mono ?_
            rintro e w8 ⟨rfl, rfl⟩
            go_wp2_with fail
            refine (rfound_any 4 ((a0 : Int) + 4) (z : Int) 0 v false w8).mono ?_
            rw [if_neg (by simp)]
            unfold fdN
            rintro e w9 ⟨rfl, l9⟩
            have L9 := LC.trans l9
            have B9 := later_keep l9 BC.out
            have kR := block_cell B9
            have fR := block_frozen B9
            go_wp2_with fail
            generalize hV : (((((w9.setCell ⟨w.heap.size, 0, none⟩ _).setCell ⟨w.heap.size, 1, none⟩ _).setCell ⟨w.heap.size, 2, none⟩ _).setCell ⟨w.heap.size, 3, none⟩ _).setCell ⟨w.heap.size, 4, none⟩ _) = V8
            have hV9 : V8 = putRow w9 w.heap.size 0 [.int .i64 0, .int .i64 0, .int .i64 0, .int .u32 0, .int .u16 0] := hV.symm
            have hb8 : But (fun b => b = w.heap.size) w9 V8 := by rw [hV9]; exact putRow_but (E := fun b => b = w.heap.size) (n := w.heap.size) rfl _ _ _ _ (But.refl _ _)
            have p8 := putRow_all [.int .i64 0, .int .i64 0, .int .i64 0, .int .u32 0, .int .u16 0] B9 rfl
            rw [← hV9] at p8
            clear hV hV9 kR fR
            have P8 := block_cell p8
            have hw8 : Later w V8 := Below.trans L9 (hb8.below (Below.size L9) (fun k h e => by omega))
            exact bodyPost_ret (v := fdN) (by unfold fdN; simp [results, Tryd.results10, go_sem, P8]) rfl ⟨by rw [HV.out], hw8⟩
          | true =>
            rw [hc] at HHE
            have HV : Hid (V = fdY 4 ((a0 : Int) + 4) z 0 v) := by show _ = _; rw [HF7.out, if_neg (by simp [h0]), if_neg (by show ¬ tkB l z ⟨#[124, 41]⟩ = false; rw [hc]; simp)]; rfl
            clear hc h0
            go_wp2_with fail
            refine (HE.out w4 l1).mono ?_
            rintro e w5 ⟨rfl, rfl⟩
            go_wp2_with fail
            refine HHB.out.mono ?_
            rintro e w6 ⟨rfl, rfl⟩
            go_wp2_with fail
            refine HNU.out.mono ?_
            rintro e w7 ⟨rfl, rfl⟩
            go_wp2_with fail
            refine HHE.out.mono ?_
            rintro e w8 ⟨rfl, rfl⟩
            go_wp2_with fail
            refine (rfound_any 4 ((a0 : Int) + 4) (z : Int) 0 v true w8).mono ?_
            rw [if_pos rfl]
            unfold fdY
            rintro e w9 ⟨rfl, l9⟩
            have L9 := LC.trans l9
            have B9 := later_keep l9 BC.out
            have kR := block_cell B9
            have fR := block_frozen B9
            go_wp2_with fail
            generalize hV : (((((w9.setCell ⟨w.heap.size, 0, none⟩ _).setCell ⟨w.heap.size, 1, none⟩ _).setCell ⟨w.heap.size, 2, none⟩ _).setCell ⟨w.heap.size, 3, none⟩ _).setCell ⟨w.heap.size, 4, none⟩ _) = V8
            have hV9 : V8 = putRow w9 w.heap.size 0 [.int .i64 4, .int .i64 ((a0 : Int) + 4), .int .i64 (z : Int), .int .u32 0, .int .u16 v] := hV.symm
            have hb8 : But (fun b => b = w.heap.size) w9 V8 := by rw [hV9]; exact putRow_but (E := fun b => b = w.heap.size) (n := w.heap.size) rfl _ _ _ _ (But.refl _ _)
            have p8 := putRow_all [.int .i64 4, .int .i64 ((a0 : Int) + 4), .int .i64 (z : Int), .int .u32 0, .int .u16 v] B9 rfl
            rw [← hV9] at p8
            clear hV hV9 kR fR
            have P8 := block_cell p8
            have hw8 : Later w V8 := Below.trans L9 (hb8.below (Below.size L9) (fun k h e => by omega))
            exact bodyPost_ret (v := fdY 4 ((a0 : Int) + 4) z 0 v) (by unfold fdY; simp [results, Tryd.results10, go_sem, P8]) rfl ⟨by rw [HV.out], hw8⟩
end Go.Proofs.YtjkhblfgadnjfaaDoor

/- The document's Find of a 227. -/
namespace Go.Proofs.YtjkhblfgadnjfaaDoor
open Go.RowKit Go.Shelf
set_option maxRecDepth 100000
set_option linter.unusedVariables false
set_option linter.unusedSimpArgs false

/-- The closing bracket. -/
theorem end_at (l : List Int) (hB : Mt.By (l ++ [13, 10])) (q : Nat) (hq : q ≤ l.length) : tkB l q tEnd = decide ((l ++ [13, 10])[q]?.getD 0 = 41) := by
  have hl := (by_app hB).1
  have key : tkB l q tEnd = true ↔ (l ++ [13, 10])[q]?.getD 0 = 41 := by
    rw [tkB_iff l hl]
    have s1 : tEnd.size = 1 := rfl
    rw [s1]
    constructor
    · rintro ⟨h1, h2⟩
      have := h2 0 (by omega)
      rw [Nat.add_zero] at this
      rw [List.getElem?_append_left (by omega)]
      exact (sml_nl (show NL (bAt tEnd 0) by unfold NL; decide)).1 this
    · intro h
      by_cases hlt : q < l.length
      · rw [List.getElem?_append_left hlt] at h
        refine ⟨hlt, fun j hj => ?_⟩
        obtain rfl : j = 0 := by omega
        rw [Nat.add_zero, h]
        rfl
      · have : q = l.length := by omega
        subst this
        rw [List.getElem?_append_right (Nat.le_refl _), Nat.sub_self] at h
        simp at h
  by_cases h : (l ++ [13, 10])[q]?.getD 0 = 41
  · rw [key.2 h]; simp [h]
  · rw [decide_eq_false h]
    cases ht : tkB l q tEnd with
    | false => rfl
    | true => exact absurd (key.1 ht) h
def fx3 (o : Option (List Int × Nat)) (l : List Int) (p : Nat) : Value := match o with
  | none => fdN
  | some x => if wat x.1 4 ≠ 0 ∧ tkB l x.2 tEnd = true then fdY 3 p x.2 (wat4 x.1 0) (wat x.1 4) else fdN
theorem fd3_neg {l : List Int} (h : pst l 4 40 < 0) : fd3 l 4 = fdN := by unfold fd3; rw [if_pos h]
theorem fd3_at {l : List Int} {q : Nat} (h : ¬ pst l 4 40 < 0) (hq : p40 l 4 = q) : fd3 l 4 = fx3 (sixO l q) l q := by
  unfold fd3
  rw [if_neg h, hq]
  rfl

set_option maxHeartbeats 8000000 in
theorem rfind_227 (bb off cp : Nat) (l : List Int) (w : World) (hB : Mt.By (l ++ [13, 10])) (hI : Rd w.heap.size w (.slice (some ⟨bb, off, none⟩) (l ++ [13, 10]).length cp) (l ++ [13, 10])) (h1 : oneL (l ++ [13, 10]) = true) (hp : tkB l 0 t227 = true) :
    Calls Tryd.prog 10 #[.slice (some ⟨bb, off, none⟩) (l ++ [13, 10]).length cp, .bool true] w fun e w' => e = .returned (fndB (l ++ [13, 10]) true) ∧ Later w w' := by
  have hlen := oneL_len h1
  have hBl := (by_app hB).1
  have hll : (l ++ [13, 10]).length = l.length + 2 := by simp
  have hcr : crl l = false := by
    have := oneL_mk l
    rw [h1] at this
    simp only [Bool.true_eq, Bool.and_eq_true, decide_eq_true_eq, Bool.not_eq_true'] at this
    exact this.2
  have hVl : fndB (l ++ [13, 10]) true = fnd l true := fndB_line true hcr (by omega)
  have l1 := later_allocR w (.cells #[.int .i64 0, .int .i64 0, .int .i64 0, .int .u32 0, .int .u16 0] 31)
  have B1 := hide (heap_alloc_new w (.cells #[.int .i64 0, .int .i64 0, .int .i64 0, .int .u32 0, .int .u16 0] 31))
  have HLN := hide (rline_any _ (l ++ [13, 10]) hB _ (hI.later l1))
  rw [h1] at HLN
  have HVL := hide hVl
  have HP := hide hp
  have HLL := hide hll
  have HRD := hide (fun W (lw : Later w W) => hI.later lw)
  have HBB : Hid (bb < w.heap.size) := by
    obtain ⟨b', o', c', e', _, _, h', _⟩ := hI.cells (by omega)
    simp at e'
    show bb < _
    omega
  have HBZ := hide hB
  have HBL := hide hBl
  have HH := hide (fun W (lw : Later w W) => rhas_any bb off cp W.heap.size (l ++ [13, 10]) hB 0 t227 W (hI.later lw) (by omega) (by omega) (by decide))
  have HE := hide (fun W (lw : Later w W) => rhas_any bb off cp W.heap.size (l ++ [13, 10]) hB 0 t229 W (hI.later lw) (by omega) (by omega) (by decide))
  have HOP := hide (fun W (lw : Later w W) => ropen_any bb off cp W.heap.size (l ++ [13, 10]) 0 W (hI.later lw) (by omega) (by omega))
  rw [has_line l hB 0 (by omega) t227 cap_227 (by decide), hp] at HH
  rw [has_line l hB 0 (by omega) t229 cap_229 (by decide)] at HE
  obtain ⟨zl, hzl⟩ : ∃ zl, (l ++ [13, 10]).length = zl := ⟨_, rfl⟩
  have e1 : (zl : Int) - 2 = (l.length : Int) := by omega
  have gz : (zl : Int) ≤ 128 := by omega
  have GL : Hid (l.length ≤ 126) := by show _ ≤ _; omega
  obtain ⟨V, hV⟩ : ∃ V, fndB (l ++ [13, 10]) true = V := ⟨_, rfl⟩
  have HVV : Hid (fnd l true = V) := by show _ = _; rw [← hVl]; exact hV
  rw [hV]
  rw [hzl] at HLN HH HE HRD HOP ⊢
  have HZL := hide hzl
  clear hVl hp h1 hcr hll hlen hB hBl hI hV
  unfold t227 at HH
  unfold t229 at HE
  obtain ⟨ov, hov⟩ : ∃ ov, opV (l ++ [13, 10]) 0 = ov := ⟨_, rfl⟩
  rw [hov] at HOP
  have HOV := hide hov
  clear hov hzl
  obtain ⟨h4, h40⟩ := four_no HBL.out nl_227 rfl (by decide) HP.out
  have hop := (HOV.out.symm.trans (op_line l HBL.out h4 h40))
  have HF3 : Hid (V = fd3 l 4) := by show _ = _; rw [← HVV.out]; exact fnd_b3 HP.out
  clear h40
  go_enter Tryd.func10, Tryd.ntmps10
  go_upto_region 1 with fail
  generalize w.alloc _ = w1 at *
  go_wp2_with fail
  refine HLN.out.mono ?_
  rintro e w2 ⟨rfl, rfl⟩
  clear HLN
  go_wp2_with fail
  refine (HOP.out w2 l1).mono ?_
  rintro e w3 ⟨rfl, rfl⟩
  by_cases hps : pst l 4 40 < 0
  · rw [if_pos hps] at hop
    have HV : Hid (V = fdN) := by show _ = _; rw [HF3.out]; exact fd3_neg hps
    subst hop
    clear hps h4
    obtain ⟨b9, hb9⟩ : ∃ b : Bool, tkB l 0 ⟨#[50, 50, 57, 32]⟩ = b := ⟨_, rfl⟩
    rw [hb9] at HE
    clear hb9
    go_wp2_with fail
    refine (HH.out w3 l1).mono ?_
    rintro e w4 ⟨rfl, rfl⟩
    go_wp2_with fail
    refine (HE.out w4 l1).mono ?_
    rintro e w5 ⟨rfl, rfl⟩
    have B9 := B1.out
    cases b9
    all_goals
      have kR := block_cell B9
      have fR := block_frozen B9
      go_wp2_with fail
      generalize hV : (((((w5.setCell ⟨w.heap.size, 0, none⟩ _).setCell ⟨w.heap.size, 1, none⟩ _).setCell ⟨w.heap.size, 2, none⟩ _).setCell ⟨w.heap.size, 3, none⟩ _).setCell ⟨w.heap.size, 4, none⟩ _) = V8
      have hV9 : V8 = putRow w5 w.heap.size 0 [.int .i64 0, .int .i64 0, .int .i64 0, .int .u32 0, .int .u16 0] := hV.symm
      have hb8 : But (fun b => b = w.heap.size) w5 V8 := by rw [hV9]; exact putRow_but (E := fun b => b = w.heap.size) (n := w.heap.size) rfl _ _ _ _ (But.refl _ _)
      have p8 := putRow_all [.int .i64 0, .int .i64 0, .int .i64 0, .int .u32 0, .int .u16 0] B9 rfl
      rw [← hV9] at p8
      clear hV hV9 kR fR
      have P8 := block_cell p8
      have hw8 : Later w V8 := Below.trans l1 (hb8.below (Below.size l1) (fun k h e => by omega))
      exact bodyPost_ret (v := fdN) (by unfold fdN; simp [results, Tryd.results10, go_sem, P8]) rfl ⟨by rw [HV.out], hw8⟩
  · rw [if_neg hps] at hop
    obtain ⟨d, d1, d2, d3, d4⟩ := brk_at HBL.out (by omega) h4
    have HF5 := hide (HF3.out.trans (fd3_at hps d2))
    rw [d1] at hop
    have hov4 : ov = ((4 + d : Nat) : Int) := by omega
    subst hov4
    clear hps d1 d2 d4 hop h4
    have hge : (4 : Int) ≤ ((4 + d : Nat) : Int) := by omega
    generalize 4 + d = a0 at *
    have hro : rowF (l ++ [13, 10]) cma 6 0 (a0 + 1) = sixO l (a0 + 1) := row_line l [13, 10] HBZ.out 44 (by decide) (by decide) (by decide) 6 0 (a0 + 1) d3
    have HS := hide (rsix_any bb off cp (l ++ [13, 10]) HBZ.out (a0 + 1) 3 w3 (by rw [HZL.out]; exact HRD.out w3 l1) (by rw [HZL.out]; omega) (by rw [HLL.out]; omega))
    rw [hro, HZL.out] at HS
    obtain ⟨o, ho⟩ : ∃ o, sixO l (a0 + 1) = o := ⟨_, rfl⟩
    rw [ho] at HS HF5
    have HSO := hide ho
    clear hro ho
    have ga : (a0 : Int) ≤ 1000 := by have := GL.out; omega
    go_wp2_with fail
    refine (HH.out w3 l1).mono ?_
    rintro e w4 ⟨rfl, rfl⟩
    go_wp2_with fail
    refine HS.out.mono ?_
    rintro e w5 ⟨rfl, l5⟩
    have L5 := l1.trans l5
    rcases (show (sxV o (a0 + 1) 3 = fdN ∧ V = fdN) ∨ ∃ x q, o = some (x, q) ∧ wat x 4 ≠ 0 by
      rw [HF5.out]
      unfold sxV fx3
      rcases o with _ | ⟨x, q⟩
      · exact .inl ⟨rfl, rfl⟩
      · by_cases hw : wat x 4 = 0
        · left; simp [hw]
        · exact .inr ⟨x, q, rfl, hw⟩) with ⟨hs, hv⟩ | ⟨x, q, rfl, hw⟩
    · rw [hs]
      unfold fdN
      have HV := hide hv
      clear hs hv
      have hfb : w.heap.size ≠ w5.heap.size := by have := (Array.getElem?_eq_some_iff.1 B1.out).1; have := l5.size; omega
      have l3 := later_allocR w5 (.cells #[.int .i64 0, .int .i64 0, .int .i64 0, .int .u32 0, .int .u16 0] 31)
      have B3 := hide (heap_alloc_new w5 (.cells #[.int .i64 0, .int .i64 0, .int .i64 0, .int .u32 0, .int .u16 0] 31))
      go_upto_region 18 with fail
      generalize w5.alloc _ = w4 at *
      generalize w5.heap.size = fb at *
      have kF := block_cell B3.out
      have L4 : Later w w4 := L5.trans l3
      have B4 := hide (later_keep ((l5).trans l3) B1.out)
      clear kF
      obtain ⟨Φ, HΦ⟩ : ∃ Φ : Array Value → World → Prop, Hid (Φ = (fun arr _ => arr = #[.int .i64 0, .int .i64 0, .int .i64 0, .int .u32 0, .int .u16 0])) := ⟨_, rfl⟩
      have hΦ : Stays Φ := by rw [HΦ.out]; intro arr A B _ h; exact h
      refine anyR_begin (R := KR w.heap.size 5 31 Φ) (Keep.pre _ _ _) (fun w => KR.of hΦ (Later.drew w)) 15 rfl (by kernel_rfl) (fun W1 hW1 => ?_)
      have hg1 : Wr w.heap.size 5 31 W1 := hW1.2.1 ⟨_, B4.out, rfl⟩
      have hbut : ∀ v1, KR w.heap.size 5 31 Φ W1 v1 → But (fun b => b = w.heap.size) w4 v1 := fun v1 h => hW1.1.trans h.1
      have kF : ∀ v1, KR w.heap.size 5 31 Φ W1 v1 → ∀ j, v1.cell? ⟨fb, j, none⟩ = (#[.int .i64 0, .int .i64 0, .int .i64 0, .int .u32 0, .int .u16 0] : Array Value)[j]? := fun v1 h => block_cell (((hbut v1 h).block fb (Array.getElem?_eq_some_iff.1 B3.out).1 (by omega)).trans B3.out)
      refine anyR_val (Keep.pre _ _ _) 0 rfl (by kernel_rfl) (by kernel_rfl) (by kernel_rfl) (fun _ _ _ _ h => h) rfl ?_; apply Exists.intro; refine ⟨fun v1 hv1 => ?_, ?_⟩; (· (go_simp; rfl)); simp only [Act.put, List.setIfInBounds_toArray, List.set_cons_zero, List.set_cons_succ]
      refine anyR_val (Keep.pre _ _ _) 1 rfl (by kernel_rfl) (by kernel_rfl) (by kernel_rfl) (fun _ _ _ _ h => h) rfl ?_; apply Exists.intro; refine ⟨fun v1 hv1 => ?_, ?_⟩; (· (go_simp; rfl)); simp only [Act.put, List.setIfInBounds_toArray, List.set_cons_zero, List.set_cons_succ]
      refine anyR_val (Keep.pre _ _ _) 2 rfl (by kernel_rfl) (by kernel_rfl) (by kernel_rfl) (fun _ _ _ _ h => h) rfl ?_; apply Exists.intro; refine ⟨fun v1 hv1 => ?_, ?_⟩; (· (go_simp; rfl)); simp only [Act.put, List.setIfInBounds_toArray, List.set_cons_zero, List.set_cons_succ]
      refine anyR_skipG (Keep.pre _ _ _) 3 rfl (by kernel_rfl) (by kernel_rfl) (by kernel_rfl) (fun _ _ _ _ h => h) (by rfl) ?_
      simp only [Act.put, List.setIfInBounds_toArray, List.set_cons_zero, List.set_cons_succ]
      refine anyR_skipG (Keep.pre _ _ _) 4 rfl (by kernel_rfl) (by kernel_rfl) (by kernel_rfl) (fun _ _ _ _ h => h) (by rfl) ?_
      simp only [Act.put, List.setIfInBounds_toArray, List.set_cons_zero, List.set_cons_succ]
      refine anyR_skipG (Keep.pre _ _ _) 5 rfl (by kernel_rfl) (by kernel_rfl) (by kernel_rfl) (fun _ _ _ _ h => h) (by rfl) ?_
      simp only [Act.put, List.setIfInBounds_toArray, List.set_cons_zero, List.set_cons_succ]
      refine anyR_skipG (Keep.pre _ _ _) 6 rfl (by kernel_rfl) (by kernel_rfl) (by kernel_rfl) (fun _ _ _ _ h => h) (by rfl) ?_
      simp only [Act.put, List.setIfInBounds_toArray, List.set_cons_zero, List.set_cons_succ]
      refine anyR_skipG (Keep.pre _ _ _) 7 rfl (by kernel_rfl) (by kernel_rfl) (by kernel_rfl) (fun _ _ _ _ h => h) (by rfl) ?_
      simp only [Act.put, List.setIfInBounds_toArray, List.set_cons_zero, List.set_cons_succ]
      refine anyR_skipG (Keep.pre _ _ _) 8 rfl (by kernel_rfl) (by kernel_rfl) (by kernel_rfl) (fun _ _ _ _ h => h) (by rfl) ?_
      simp only [Act.put, List.setIfInBounds_toArray, List.set_cons_zero, List.set_cons_succ]
      refine anyR_val (Keep.pre _ _ _) 9 rfl (by kernel_rfl) (by kernel_rfl) (by kernel_rfl) (fun _ _ _ _ h => h) rfl ?_; apply Exists.intro; refine ⟨fun v1 hv1 => ?_, ?_⟩; (· (go_simp; rfl)); simp only [Act.put, List.setIfInBounds_toArray, List.set_cons_zero, List.set_cons_succ]
      clear kF
      refine anyR_one 10 rfl (by kernel_rfl) rfl (fun W2 hW2 => ?_)
      refine wp_enter 26 #[.agg #[.int .i64 0, .int .i64 0, .int .i64 0, .int .u32 0, .int .u16 0], .bool false] (by go_simp) ?_
      refine (rfound_any 0 0 0 0 0 false W2).mono ?_
      rw [if_neg (by simp)]
      unfold fdN
      rintro e W5 ⟨rfl, hb5⟩
      have hW15 := hW2.trans (KR.of hΦ hb5)
      refine ⟨KR.of hΦ hb5, ?_⟩
      simp only [Act.put, List.setIfInBounds_toArray, List.set_cons_zero, List.set_cons_succ]
      refine anyR_val (Keep.pre _ _ _) 11 rfl (by kernel_rfl) (by kernel_rfl) (by kernel_rfl) (fun _ _ _ _ h => h) rfl ?_; apply Exists.intro; refine ⟨fun v1 hv1 => ?_, ?_⟩; (· (go_simp; rfl)); simp only [Act.put, List.setIfInBounds_toArray, List.set_cons_zero, List.set_cons_succ]
      refine anyR_val (Keep.pre _ _ _) 12 rfl (by kernel_rfl) (by kernel_rfl) (by kernel_rfl) (fun _ _ _ _ h => h) rfl ?_; apply Exists.intro; refine ⟨fun v1 hv1 => ?_, ?_⟩; (· (go_simp; rfl)); simp only [Act.put, List.setIfInBounds_toArray, List.set_cons_zero, List.set_cons_succ]
      refine anyR_one 13 rfl (by kernel_rfl) rfl (fun W6 hW6 => ?_)
      have hW16 := hW15.trans hW6
      have hg6 := hW16.2.1 hg1
      have hg6' := hg6
      obtain ⟨cur, hcur, hsz⟩ := hg6'
      have k6 : ∀ j, W6.cell? ⟨w.heap.size, j, none⟩ = cur[j]? := block_cell hcur
      have f6 : ∀ j, W6.frozen? ⟨w.heap.size, j, none⟩ = false := block_frozen hcur
      unfold Oper.wp
      go_simp
      generalize hV7 : (((((W6.setCell ⟨w.heap.size, 0, none⟩ _).setCell ⟨w.heap.size, 1, none⟩ _).setCell ⟨w.heap.size, 2, none⟩ _).setCell ⟨w.heap.size, 3, none⟩ _).setCell ⟨w.heap.size, 4, none⟩ _) = V7
      have hV8 : V7 = putRow W6 w.heap.size 0 [.int .i64 0, .int .i64 0, .int .i64 0, .int .u32 0, .int .u16 0] := hV7.symm
      have hSt := KR.store (Φ := Φ) [.int .i64 0, .int .i64 0, .int .i64 0, .int .u32 0, .int .u16 0] hg6 rfl (by rw [HΦ.out])
      rw [← hV8] at hSt
      clear hV7 hV8 k6 f6
      refine ⟨hSt.1, ?_⟩
      refine anyR_val (Keep.pre _ _ _) 14 rfl (by kernel_rfl) (by kernel_rfl) (by kernel_rfl) (fun _ _ _ _ h => h) rfl ?_; apply Exists.intro; refine ⟨fun v1 hv1 => ?_, ?_⟩; (· (go_simp; rfl)); simp only [Act.put, List.setIfInBounds_toArray, List.set_cons_zero, List.set_cons_succ]
      refine anyR_done (by kernel_rfl) (fun W8 hW8 => ?_)
      obtain ⟨arr, hh8, hP8⟩ := hW8.2.2 hSt.2
      have hb9 := hbut W8 ((hW16.trans hSt.1).trans hW8)
      have hw8 : Later w W8 := Below.trans L4 (hb9.below (Below.size L4) (fun k h e => by omega))
      clear hSt hbut
      rw [HΦ.out] at hP8
      subst hP8
      have P8 := block_cell hh8
      go_wp2_with fail
      exact bodyPost_ret (v := fdN) (by unfold fdN; simp [results, Tryd.results10, go_sem, P8]) rfl ⟨by rw [HV.out], hw8⟩
    · rw [show sxV (some (x, q)) (a0 + 1) 3 = fdY 3 ((a0 : Int) + 1) q (wat4 x 0) (wat x 4) from by unfold sxV; simp only; rw [if_neg hw]; rfl]
      unfold fdY
      have hql : q ≤ l.length := (rwT_was 44 (by decide) l HBL.out 6 0 (a0 + 1) x q d3 HSO.out).2.2
      have hfb : w.heap.size ≠ w5.heap.size := by have := (Array.getElem?_eq_some_iff.1 B1.out).1; have := l5.size; omega
      have l3 := later_allocR w5 (.cells #[.int .i64 3, .int .i64 ((a0 : Int) + 1), .int .i64 (q : Int), .int .u32 (wat4 x 0), .int .u16 (wat x 4)] 31)
      have B3 := hide (heap_alloc_new w5 (.cells #[.int .i64 3, .int .i64 ((a0 : Int) + 1), .int .i64 (q : Int), .int .u32 (wat4 x 0), .int .u16 (wat x 4)] 31))
      go_upto_region 18 with fail
      generalize w5.alloc _ = w4 at *
      generalize w5.heap.size = fb at *
      have kF := block_cell B3.out
      have L4 : Later w w4 := L5.trans l3
      have B4 := hide (later_keep ((l5).trans l3) B1.out)
      clear kF
      have hcq : w4.cell? ⟨bb, off + q, none⟩ = some (.int .u8 ((l ++ [13, 10])[q]?.getD 0)) := by
        have h9 := HRD.out w4 L4
        rw [← HZL.out] at h9
        exact h9.cellAt q (by have := HLL.out; omega)
      have hzq := Mt.By.at HBZ.out q
      have HEA := hide (end_at l HBZ.out q hql)
      have gq : (q : Int) < (zl : Int) := by have := HLL.out; have := HZL.out; omega
      have hbb := HBB.out
      generalize (l ++ [13, 10])[q]?.getD 0 = zq at *
      by_cases hc : zq = 41
      · have HV : Hid (V = fdY 3 ((a0 : Int) + 1) q (wat4 x 0) (wat x 4)) := by show _ = _; rw [HF5.out]; unfold fx3; simp only; rw [if_pos ⟨hw, by rw [HEA.out]; simp [hc]⟩]; rfl
        have hc' : (zq == 41) = true := by simpa using hc
        clear hc hw
        obtain ⟨Φ, HΦ⟩ : ∃ Φ : Array Value → World → Prop, Hid (Φ = (fun arr _ => arr = #[.int .i64 3, .int .i64 ((a0 : Int) + 1), .int .i64 (q : Int), .int .u32 (wat4 x 0), .int .u16 (wat x 4)])) := ⟨_, rfl⟩
        have hΦ : Stays Φ := by rw [HΦ.out]; intro arr A B _ h; exact h
        refine anyR_begin (R := KR w.heap.size 5 31 Φ) (Keep.pre _ _ _) (fun w => KR.of hΦ (Later.drew w)) 15 rfl (by kernel_rfl) (fun W1 hW1 => ?_)
        have hg1 : Wr w.heap.size 5 31 W1 := hW1.2.1 ⟨_, B4.out, rfl⟩
        have hbut : ∀ v1, KR w.heap.size 5 31 Φ W1 v1 → But (fun b => b = w.heap.size) w4 v1 := fun v1 h => hW1.1.trans h.1
        have kF : ∀ v1, KR w.heap.size 5 31 Φ W1 v1 → ∀ j, v1.cell? ⟨fb, j, none⟩ = (#[.int .i64 3, .int .i64 ((a0 : Int) + 1), .int .i64 (q : Int), .int .u32 (wat4 x 0), .int .u16 (wat x 4)] : Array Value)[j]? := fun v1 h => block_cell (((hbut v1 h).block fb (Array.getElem?_eq_some_iff.1 B3.out).1 (by omega)).trans B3.out)
        have kZ : ∀ v1, KR w.heap.size 5 31 Φ W1 v1 → v1.cell? ⟨bb, off + q, none⟩ = some (.int .u8 zq) := fun v1 h => (hbut v1 h).cell hcq (by show ¬ bb = _; omega)
        refine anyR_val (Keep.pre _ _ _) 0 rfl (by kernel_rfl) (by kernel_rfl) (by kernel_rfl) (fun _ _ _ _ h => h) rfl ?_; apply Exists.intro; refine ⟨fun v1 hv1 => ?_, ?_⟩; (· (go_simp; rfl)); simp only [Act.put, List.setIfInBounds_toArray, List.set_cons_zero, List.set_cons_succ]
        refine anyR_val (Keep.pre _ _ _) 1 rfl (by kernel_rfl) (by kernel_rfl) (by kernel_rfl) (fun _ _ _ _ h => h) rfl ?_; apply Exists.intro; refine ⟨fun v1 hv1 => ?_, ?_⟩; (· (go_simp; rfl)); simp only [Act.put, List.setIfInBounds_toArray, List.set_cons_zero, List.set_cons_succ]
        refine anyR_val (Keep.pre _ _ _) 2 rfl (by kernel_rfl) (by kernel_rfl) (by kernel_rfl) (fun _ _ _ _ h => h) rfl ?_; apply Exists.intro; refine ⟨fun v1 hv1 => ?_, ?_⟩; (· (go_simp; rfl)); simp only [Act.put, List.setIfInBounds_toArray, List.set_cons_zero, List.set_cons_succ]
        refine anyR_valG (Keep.pre _ _ _) 3 rfl (by kernel_rfl) (by kernel_rfl) (by kernel_rfl) (fun _ _ _ _ h => h) (by rfl) ?_; apply Exists.intro; refine ⟨fun v1 hv1 => ?_, ?_⟩; (· (go_simp; rfl)); simp only [Act.put, List.setIfInBounds_toArray, List.set_cons_zero, List.set_cons_succ]
        refine anyR_valG (Keep.pre _ _ _) 4 rfl (by kernel_rfl) (by kernel_rfl) (by kernel_rfl) (fun _ _ _ _ h => h) (by rfl) ?_; apply Exists.intro; refine ⟨fun v1 hv1 => ?_, ?_⟩; (· (go_simp; rfl)); simp only [Act.put, List.setIfInBounds_toArray, List.set_cons_zero, List.set_cons_succ]
        refine anyR_valG (Keep.pre _ _ _) 5 rfl (by kernel_rfl) (by kernel_rfl) (by kernel_rfl) (fun _ _ _ _ h => h) (by rfl) ?_; apply Exists.intro; refine ⟨fun v1 hv1 => ?_, ?_⟩; (· (go_simp; rfl)); simp only [Act.put, List.setIfInBounds_toArray, List.set_cons_zero, List.set_cons_succ]
        refine anyR_valG (Keep.pre _ _ _) 6 rfl (by kernel_rfl) (by kernel_rfl) (by kernel_rfl) (fun _ _ _ _ h => h) (by rfl) ?_; apply Exists.intro; refine ⟨fun v1 hv1 => ?_, ?_⟩; (· (go_simp; rfl)); simp only [Act.put, List.setIfInBounds_toArray, List.set_cons_zero, List.set_cons_succ]
        refine anyR_valG (Keep.pre _ _ _) 7 rfl (by kernel_rfl) (by kernel_rfl) (by kernel_rfl) (fun _ _ _ _ h => h) (by rfl) ?_; apply Exists.intro; refine ⟨fun v1 hv1 => ?_, ?_⟩; (· (go_simp; rfl)); simp only [Act.put, List.setIfInBounds_toArray, List.set_cons_zero, List.set_cons_succ]
        refine anyR_valG (Keep.pre _ _ _) 8 rfl (by kernel_rfl) (by kernel_rfl) (by kernel_rfl) (fun _ _ _ _ h => h) (by rfl) ?_; apply Exists.intro; refine ⟨fun v1 hv1 => ?_, ?_⟩; (· (go_simp; rfl)); simp only [Act.put, List.setIfInBounds_toArray, List.set_cons_zero, List.set_cons_succ]
        refine anyR_val (Keep.pre _ _ _) 9 rfl (by kernel_rfl) (by kernel_rfl) (by kernel_rfl) (fun _ _ _ _ h => h) rfl ?_; apply Exists.intro; refine ⟨fun v1 hv1 => ?_, ?_⟩; (· (go_simp; rfl)); simp only [Act.put, List.setIfInBounds_toArray, List.set_cons_zero, List.set_cons_succ]
        clear kF kZ
        refine anyR_one 10 rfl (by kernel_rfl) rfl (fun W2 hW2 => ?_)
        refine wp_enter 26 #[.agg #[.int .i64 3, .int .i64 ((a0 : Int) + 1), .int .i64 (q : Int), .int .u32 (wat4 x 0), .int .u16 (wat x 4)], .bool true] (by go_simp) ?_
        refine (rfound_any 3 ((a0 : Int) + 1) q (wat4 x 0) (wat x 4) true W2).mono ?_
        rw [if_pos rfl]
        unfold fdY
        rintro e W5 ⟨rfl, hb5⟩
        have hW15 := hW2.trans (KR.of hΦ hb5)
        refine ⟨KR.of hΦ hb5, ?_⟩
        simp only [Act.put, List.setIfInBounds_toArray, List.set_cons_zero, List.set_cons_succ]
        refine anyR_val (Keep.pre _ _ _) 11 rfl (by kernel_rfl) (by kernel_rfl) (by kernel_rfl) (fun _ _ _ _ h => h) rfl ?_; apply Exists.intro; refine ⟨fun v1 hv1 => ?_, ?_⟩; (· (go_simp; rfl)); simp only [Act.put, List.setIfInBounds_toArray, List.set_cons_zero, List.set_cons_succ]
        refine anyR_val (Keep.pre _ _ _) 12 rfl (by kernel_rfl) (by kernel_rfl) (by kernel_rfl) (fun _ _ _ _ h => h) rfl ?_; apply Exists.intro; refine ⟨fun v1 hv1 => ?_, ?_⟩; (· (go_simp; rfl)); simp only [Act.put, List.setIfInBounds_toArray, List.set_cons_zero, List.set_cons_succ]
        refine anyR_one 13 rfl (by kernel_rfl) rfl (fun W6 hW6 => ?_)
        have hW16 := hW15.trans hW6
        have hg6 := hW16.2.1 hg1
        have hg6' := hg6
        obtain ⟨cur, hcur, hsz⟩ := hg6'
        have k6 : ∀ j, W6.cell? ⟨w.heap.size, j, none⟩ = cur[j]? := block_cell hcur
        have f6 : ∀ j, W6.frozen? ⟨w.heap.size, j, none⟩ = false := block_frozen hcur
        unfold Oper.wp
        go_simp
        generalize hV7 : (((((W6.setCell ⟨w.heap.size, 0, none⟩ _).setCell ⟨w.heap.size, 1, none⟩ _).setCell ⟨w.heap.size, 2, none⟩ _).setCell ⟨w.heap.size, 3, none⟩ _).setCell ⟨w.heap.size, 4, none⟩ _) = V7
        have hV8 : V7 = putRow W6 w.heap.size 0 [.int .i64 3, .int .i64 ((a0 : Int) + 1), .int .i64 (q : Int), .int .u32 (wat4 x 0), .int .u16 (wat x 4)] := hV7.symm
        have hSt := KR.store (Φ := Φ) [.int .i64 3, .int .i64 ((a0 : Int) + 1), .int .i64 (q : Int), .int .u32 (wat4 x 0), .int .u16 (wat x 4)] hg6 rfl (by rw [HΦ.out])
        rw [← hV8] at hSt
        clear hV7 hV8 k6 f6
        refine ⟨hSt.1, ?_⟩
        refine anyR_val (Keep.pre _ _ _) 14 rfl (by kernel_rfl) (by kernel_rfl) (by kernel_rfl) (fun _ _ _ _ h => h) rfl ?_; apply Exists.intro; refine ⟨fun v1 hv1 => ?_, ?_⟩; (· (go_simp; rfl)); simp only [Act.put, List.setIfInBounds_toArray, List.set_cons_zero, List.set_cons_succ]
        refine anyR_done (by kernel_rfl) (fun W8 hW8 => ?_)
        obtain ⟨arr, hh8, hP8⟩ := hW8.2.2 hSt.2
        have hb9 := hbut W8 ((hW16.trans hSt.1).trans hW8)
        have hw8 : Later w W8 := Below.trans L4 (hb9.below (Below.size L4) (fun k h e => by omega))
        clear hSt hbut
        rw [HΦ.out] at hP8
        subst hP8
        have P8 := block_cell hh8
        go_wp2_with fail
        exact bodyPost_ret (v := fdY 3 ((a0 : Int) + 1) q (wat4 x 0) (wat x 4)) (by unfold fdY; simp [results, Tryd.results10, go_sem, P8]) rfl ⟨by rw [HV.out], hw8⟩
      · have HV : Hid (V = fdN) := by show _ = _; rw [HF5.out]; unfold fx3; simp only; rw [if_neg (fun h => by rw [HEA.out] at h; simp [hc] at h)]
        have hc' : (zq == 41) = false := by simpa using hc
        clear hc hw
        obtain ⟨Φ, HΦ⟩ : ∃ Φ : Array Value → World → Prop, Hid (Φ = (fun arr _ => arr = #[.int .i64 0, .int .i64 0, .int .i64 0, .int .u32 0, .int .u16 0])) := ⟨_, rfl⟩
        have hΦ : Stays Φ := by rw [HΦ.out]; intro arr A B _ h; exact h
        refine anyR_begin (R := KR w.heap.size 5 31 Φ) (Keep.pre _ _ _) (fun w => KR.of hΦ (Later.drew w)) 15 rfl (by kernel_rfl) (fun W1 hW1 => ?_)
        have hg1 : Wr w.heap.size 5 31 W1 := hW1.2.1 ⟨_, B4.out, rfl⟩
        have hbut : ∀ v1, KR w.heap.size 5 31 Φ W1 v1 → But (fun b => b = w.heap.size) w4 v1 := fun v1 h => hW1.1.trans h.1
        have kF : ∀ v1, KR w.heap.size 5 31 Φ W1 v1 → ∀ j, v1.cell? ⟨fb, j, none⟩ = (#[.int .i64 3, .int .i64 ((a0 : Int) + 1), .int .i64 (q : Int), .int .u32 (wat4 x 0), .int .u16 (wat x 4)] : Array Value)[j]? := fun v1 h => block_cell (((hbut v1 h).block fb (Array.getElem?_eq_some_iff.1 B3.out).1 (by omega)).trans B3.out)
        have kZ : ∀ v1, KR w.heap.size 5 31 Φ W1 v1 → v1.cell? ⟨bb, off + q, none⟩ = some (.int .u8 zq) := fun v1 h => (hbut v1 h).cell hcq (by show ¬ bb = _; omega)
        refine anyR_val (Keep.pre _ _ _) 0 rfl (by kernel_rfl) (by kernel_rfl) (by kernel_rfl) (fun _ _ _ _ h => h) rfl ?_; apply Exists.intro; refine ⟨fun v1 hv1 => ?_, ?_⟩; (· (go_simp; rfl)); simp only [Act.put, List.setIfInBounds_toArray, List.set_cons_zero, List.set_cons_succ]
        refine anyR_val (Keep.pre _ _ _) 1 rfl (by kernel_rfl) (by kernel_rfl) (by kernel_rfl) (fun _ _ _ _ h => h) rfl ?_; apply Exists.intro; refine ⟨fun v1 hv1 => ?_, ?_⟩; (· (go_simp; rfl)); simp only [Act.put, List.setIfInBounds_toArray, List.set_cons_zero, List.set_cons_succ]
        refine anyR_val (Keep.pre _ _ _) 2 rfl (by kernel_rfl) (by kernel_rfl) (by kernel_rfl) (fun _ _ _ _ h => h) rfl ?_; apply Exists.intro; refine ⟨fun v1 hv1 => ?_, ?_⟩; (· (go_simp; rfl)); simp only [Act.put, List.setIfInBounds_toArray, List.set_cons_zero, List.set_cons_succ]
        refine anyR_valG (Keep.pre _ _ _) 3 rfl (by kernel_rfl) (by kernel_rfl) (by kernel_rfl) (fun _ _ _ _ h => h) (by rfl) ?_; apply Exists.intro; refine ⟨fun v1 hv1 => ?_, ?_⟩; (· (go_simp; rfl)); simp only [Act.put, List.setIfInBounds_toArray, List.set_cons_zero, List.set_cons_succ]
        refine anyR_valG (Keep.pre _ _ _) 4 rfl (by kernel_rfl) (by kernel_rfl) (by kernel_rfl) (fun _ _ _ _ h => h) (by rfl) ?_; apply Exists.intro; refine ⟨fun v1 hv1 => ?_, ?_⟩; (· (go_simp; rfl)); simp only [Act.put, List.setIfInBounds_toArray, List.set_cons_zero, List.set_cons_succ]
        refine anyR_valG (Keep.pre _ _ _) 5 rfl (by kernel_rfl) (by kernel_rfl) (by kernel_rfl) (fun _ _ _ _ h => h) (by rfl) ?_; apply Exists.intro; refine ⟨fun v1 hv1 => ?_, ?_⟩; (· (go_simp; rfl)); simp only [Act.put, List.setIfInBounds_toArray, List.set_cons_zero, List.set_cons_succ]
        refine anyR_valG (Keep.pre _ _ _) 6 rfl (by kernel_rfl) (by kernel_rfl) (by kernel_rfl) (fun _ _ _ _ h => h) (by rfl) ?_; apply Exists.intro; refine ⟨fun v1 hv1 => ?_, ?_⟩; (· (go_simp; rfl)); simp only [Act.put, List.setIfInBounds_toArray, List.set_cons_zero, List.set_cons_succ]
        refine anyR_valG (Keep.pre _ _ _) 7 rfl (by kernel_rfl) (by kernel_rfl) (by kernel_rfl) (fun _ _ _ _ h => h) (by rfl) ?_; apply Exists.intro; refine ⟨fun v1 hv1 => ?_, ?_⟩; (· (go_simp; rfl)); simp only [Act.put, List.setIfInBounds_toArray, List.set_cons_zero, List.set_cons_succ]
        refine anyR_valG (Keep.pre _ _ _) 8 rfl (by kernel_rfl) (by kernel_rfl) (by kernel_rfl) (fun _ _ _ _ h => h) (by rfl) ?_; apply Exists.intro; refine ⟨fun v1 hv1 => ?_, ?_⟩; (· (go_simp; rfl)); simp only [Act.put, List.setIfInBounds_toArray, List.set_cons_zero, List.set_cons_succ]
        refine anyR_val (Keep.pre _ _ _) 9 rfl (by kernel_rfl) (by kernel_rfl) (by kernel_rfl) (fun _ _ _ _ h => h) rfl ?_; apply Exists.intro; refine ⟨fun v1 hv1 => ?_, ?_⟩; (· (go_simp; rfl)); simp only [Act.put, List.setIfInBounds_toArray, List.set_cons_zero, List.set_cons_succ]
        clear kF kZ
        refine anyR_one 10 rfl (by kernel_rfl) rfl (fun W2 hW2 => ?_)
        refine wp_enter 26 #[.agg #[.int .i64 3, .int .i64 ((a0 : Int) + 1), .int .i64 (q : Int), .int .u32 (wat4 x 0), .int .u16 (wat x 4)], .bool false] (by go_simp) ?_
        refine (rfound_any 3 ((a0 : Int) + 1) q (wat4 x 0) (wat x 4) false W2).mono ?_
        rw [if_neg (by simp)]
        unfold fdN
        rintro e W5 ⟨rfl, hb5⟩
        have hW15 := hW2.trans (KR.of hΦ hb5)
        refine ⟨KR.of hΦ hb5, ?_⟩
        simp only [Act.put, List.setIfInBounds_toArray, List.set_cons_zero, List.set_cons_succ]
        refine anyR_val (Keep.pre _ _ _) 11 rfl (by kernel_rfl) (by kernel_rfl) (by kernel_rfl) (fun _ _ _ _ h => h) rfl ?_; apply Exists.intro; refine ⟨fun v1 hv1 => ?_, ?_⟩; (· (go_simp; rfl)); simp only [Act.put, List.setIfInBounds_toArray, List.set_cons_zero, List.set_cons_succ]
        refine anyR_val (Keep.pre _ _ _) 12 rfl (by kernel_rfl) (by kernel_rfl) (by kernel_rfl) (fun _ _ _ _ h => h) rfl ?_; apply Exists.intro; refine ⟨fun v1 hv1 => ?_, ?_⟩; (· (go_simp; rfl)); simp only [Act.put, List.setIfInBounds_toArray, List.set_cons_zero, List.set_cons_succ]
        refine anyR_one 13 rfl (by kernel_rfl) rfl (fun W6 hW6 => ?_)
        have hW16 := hW15.trans hW6
        have hg6 := hW16.2.1 hg1
        have hg6' := hg6
        obtain ⟨cur, hcur, hsz⟩ := hg6'
        have k6 : ∀ j, W6.cell? ⟨w.heap.size, j, none⟩ = cur[j]? := block_cell hcur
        have f6 : ∀ j, W6.frozen? ⟨w.heap.size, j, none⟩ = false := block_frozen hcur
        unfold Oper.wp
        go_simp
        generalize hV7 : (((((W6.setCell ⟨w.heap.size, 0, none⟩ _).setCell ⟨w.heap.size, 1, none⟩ _).setCell ⟨w.heap.size, 2, none⟩ _).setCell ⟨w.heap.size, 3, none⟩ _).setCell ⟨w.heap.size, 4, none⟩ _) = V7
        have hV8 : V7 = putRow W6 w.heap.size 0 [.int .i64 0, .int .i64 0, .int .i64 0, .int .u32 0, .int .u16 0] := hV7.symm
        have hSt := KR.store (Φ := Φ) [.int .i64 0, .int .i64 0, .int .i64 0, .int .u32 0, .int .u16 0] hg6 rfl (by rw [HΦ.out])
        rw [← hV8] at hSt
        clear hV7 hV8 k6 f6
        refine ⟨hSt.1, ?_⟩
        refine anyR_val (Keep.pre _ _ _) 14 rfl (by kernel_rfl) (by kernel_rfl) (by kernel_rfl) (fun _ _ _ _ h => h) rfl ?_; apply Exists.intro; refine ⟨fun v1 hv1 => ?_, ?_⟩; (· (go_simp; rfl)); simp only [Act.put, List.setIfInBounds_toArray, List.set_cons_zero, List.set_cons_succ]
        refine anyR_done (by kernel_rfl) (fun W8 hW8 => ?_)
        obtain ⟨arr, hh8, hP8⟩ := hW8.2.2 hSt.2
        have hb9 := hbut W8 ((hW16.trans hSt.1).trans hW8)
        have hw8 : Later w W8 := Below.trans L4 (hb9.below (Below.size L4) (fun k h e => by omega))
        clear hSt hbut
        rw [HΦ.out] at hP8
        subst hP8
        have P8 := block_cell hh8
        go_wp2_with fail
        exact bodyPost_ret (v := fdN) (by unfold fdN; simp [results, Tryd.results10, go_sem, P8]) rfl ⟨by rw [HV.out], hw8⟩
end Go.Proofs.YtjkhblfgadnjfaaDoor

/- The document's Find of any bytes; the walk of FtpFinds. -/
namespace Go.Proofs.YtjkhblfgadnjfaaDoor
open Go.RowKit Go.Shelf
set_option maxRecDepth 100000
set_option linter.unusedVariables false
set_option linter.unusedSimpArgs false

theorem rfind_any (sv : Value) (zs : List Int) (back : Bool) (w : World) (hB : Mt.By zs) (hI : Rd w.heap.size w sv zs) :
    Calls Tryd.prog 10 #[sv, .bool back] w fun e w' => e = .returned (fndB zs back) ∧ Later w w' := by
  cases h1 : oneL zs with
  | false => exact rfind_no sv zs back w hB hI h1
  | true =>
    obtain ⟨l, rfl, hc, hl⟩ := oneL_parts h1
    obtain ⟨bb, off, cp, rfl, _⟩ := hI.cells (by simp)
    cases back with
    | false =>
      cases hp : tkB l 0 tPort with
      | true => exact rfind_port bb off cp l w hB hI h1 hp
      | false => exact rfind_eprt bb off cp l w hB hI h1 hp
    | true =>
      cases hp : tkB l 0 t227 with
      | true => exact rfind_227 bb off cp l w hB hI h1 hp
      | false => exact rfind_229 bb off cp l w hB hI h1 hp
theorem fdF_vals (zs : List Int) (back : Bool) : ∃ (k st en ad pt : Int) (ok : Bool), fndB zs back = .tuple #[.agg #[.int .i64 k, .int .i64 st, .int .i64 en, .int .u32 ad, .int .u16 pt], .bool ok] := by
  rcases fndB_form zs back with h | ⟨k, st, en, ad, pt, h⟩
  · exact ⟨0, 0, 0, 0, 0, false, h⟩
  · exact ⟨k, st, en, ad, pt, true, h⟩

set_option maxHeartbeats 8000000 in
theorem walk_FtpFinds (w : World) (hT : TabR w) (hU : TabI w) (sv : Value) (zs : List Int) (hB : Mt.By zs) (hI : Rd w.heap.size w sv zs) (hl : zs.length ≤ 140737488351232) (back : Bool) :
    Calls Tryd.prog 3 #[sv, .bool back] w fun e w' => e = .returned (.bool true) ∧ Below w.heap.size w w' := by
  obtain ⟨i0, hi, hz0, hz1, hz2⟩ := info_parts info_u8
  obtain ⟨a, cap, rfl, hl1, hm1⟩ := hI.slice
  have HT := hide hT
  have HU := hide hU
  have hbA : Below w.heap.size w (w.alloc (.cells #[] 5)) := (Below.refl _ w).alloc (Nat.le_refl _) _
  have HIA := hide (hI.below hbA)
  have hlb : ([] : List Int).length + zs.length ≤ 140737488355328 := by simp; omega
  have HPA := hide (fun v sv (l : Later w v) (h : Rd v.heap.size v sv zs) => find_any sv zs back v (HT.out.later l) hB h)
  have HPB := hide (fun v sv (h : Rd v.heap.size v sv zs) => rfind_any sv zs back v hB h)
  obtain ⟨k, st, en, ad, pt, ok, hv⟩ := fdF_vals zs back
  rw [hv] at HPA HPB
  clear hv hT hU
  go_enter Tryd.func3, Tryd.ntmps3
  go_wp2_with (at_builtin; refine wpList_app _ rfl (.tmp 10) (.tmp 11) 22 rfl w.heap.size 5 i0 Tryd.underlying22 hi hz0 hz1 hz2 _ [] rfl (own_empty w _) w.heap.size _ zs rfl HIA.out hlb (by simp) ?_; intro v1 w1 hown1 hg1; refine Hid.out ?_)
  have l1 : Later w w1 := below_app hbA (own_empty w _) hg1 (Nat.le_refl _) (by simp)
  clear hg1
  simp only [List.nil_append] at hown1
  have hO1 := Ow.of_row hown1
  clear hown1 HIA hbA
  obtain ⟨a1, cap1, rfl, hl2, hm2⟩ := hO1.slice
  show wpList _ _ _ _ _ _
  go_wp2_with fail
  refine (HPA.out w1 _ l1 hO1.rd).mono ?_
  rintro e w2 ⟨rfl, l2⟩
  have B3 := hide (heap_alloc_new w2 (.cells #[.int .i64 k, .int .i64 st, .int .i64 en, .int .u32 ad, .int .u16 pt] 27))
  have l3 : Later w1 (w2.alloc (.cells #[.int .i64 k, .int .i64 st, .int .i64 en, .int .u32 ad, .int .u16 pt] 27)) := Later.trans l2 (later_allocR _ _)
  clear l2
  go_upto_region 3 with fail
  generalize w2.alloc _ = w3 at *
  generalize w2.heap.size = b2 at *
  have L3 : Later w w3 := Later.trans l1 l3
  go_wp2_with fail
  refine (HPB.out w3 _ (hI.later L3)).mono ?_
  rintro e w4 ⟨rfl, l4⟩
  have B5 := hide (heap_alloc_new w4 (.cells #[.int .i64 k, .int .i64 st, .int .i64 en, .int .u32 ad, .int .u16 pt] 31))
  have l5 : Later w3 (w4.alloc (.cells #[.int .i64 k, .int .i64 st, .int .i64 en, .int .u32 ad, .int .u16 pt] 31)) := Later.trans l4 (later_allocR _ _)
  clear l4
  go_upto_region 4 with fail
  generalize w4.alloc _ = w5 at *
  generalize w4.heap.size = b4 at *
  have L5 : Later w w5 := L3.trans l5
  go_wp2_with fail
  refine (live13_any w5 (HT.out.later L5) (HU.out.later L5)).mono ?_
  rintro e w6 ⟨rfl, l6⟩
  have CM := block_cell (later_keep (l5.trans l6) B3.out)
  have CN := block_cell (later_keep l6 B5.out)
  have L6 : Later w w6 := L5.trans l6
  have q0 : (convert 22 9 (.slice a zs.length cap)).run Tryd.prog w6 = .ok (.string (strOfNums zs)) w6 := conv_rd 22 9 5 Tryd.underlying22 Tryd.underlying5 Tryd.underlying9 (hI.below L6)
  have q1 : (convert 22 9 (.slice a1 zs.length cap1)).run Tryd.prog w6 = .ok (.string (strOfNums zs)) w6 := conv_rd 22 9 5 Tryd.underlying22 Tryd.underlying5 Tryd.underlying9 (hO1.rd.below (l3.trans (l5.trans l6)))
  cases ok
  all_goals
    go_wp2_with fail
    go_ret
    exact ⟨rfl, L6⟩
end Go.Proofs.YtjkhblfgadnjfaaDoor
