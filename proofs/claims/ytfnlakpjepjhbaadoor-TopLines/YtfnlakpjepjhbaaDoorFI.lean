/- Package ftp: a reader's six numbers. -/
import Derived.Test.YtfnlakpjepjhbaaDoorFH
import Derived.Test.YtfnlakpjepjhbaaDoorW7
namespace Go.Proofs.YtfnlakpjepjhbaaDoor
open Go.RowKit Go.Shelf
set_option maxRecDepth 100000
set_option linter.unusedVariables false
set_option linter.unusedSimpArgs false

theorem numV_by {s : ByteArray} {v : Int} (h : numV s 255 = some v) : 0 ≤ v ∧ v ≤ 255 := by
  have := numV_rng s 255 (by omega)
  rw [h] at this
  exact this
theorem rowF_by (zs : List Int) (mk : ByteArray) : ∀ k i p x, rowF zs mk k i p = some x → Mt.By x.1
  | 0, i, p, x, h => by
    have : x = ([], p) := by simpa [rowF] using h.symm
    rw [this]; exact Mt.By.nil
  | k + 1, i, p, x, h => by
    unfold rowF at h
    obtain ⟨q, _, h⟩ := Option.bind_eq_some_iff.1 h
    obtain ⟨v, hv, h⟩ := Option.bind_eq_some_iff.1 h
    obtain ⟨y, hy, rfl⟩ := Option.map_eq_some_iff.1 h
    have ih := rowF_by zs mk k (i + 1) _ y hy
    intro z hz
    rcases List.mem_cons.1 hz with rfl | hz
    · exact numV_by hv
    · exact ih z hz
theorem But.dropN {rb n : Nat} {w w' : World} (h : But (fun g => g = rb ∨ g = n) w w') (hn : w.heap.size ≤ n) : But (fun g => g = rb) w w' := ⟨h.os, h.tape, h.output, h.size, fun i hi he => h.block i hi (fun e => by rcases e with e | e; (· exact he e); (· omega))⟩
/-- Bytes of a block read. -/
theorem rd_blk {W : World} {nb : Nat} {tn : TypeId} {l : List Int} (h : W.heap[nb]? = some (.cells (l.map (Value.int .u8)).toArray tn (0, 0))) (hne : l ≠ []) (hm : l.length ≤ 1000) : Rd W.heap.size W (.slice (some ⟨nb, 0, none⟩) l.length l.length) l := by
  refine .inr ⟨nb, 0, l.length, rfl, hne, Nat.le_refl _, by omega, (Array.getElem?_eq_some_iff.1 h).1, fun j hj => ?_⟩
  rw [Nat.zero_add, block_cell h, List.getElem?_toArray, List.getElem?_map, List.getElem?_eq_getElem hj]
  rfl
def cma : ByteArray := ⟨#[44]⟩
def stR (r : Rr) (v : Int) : Rr := ⟨r.at0, r.kd, v, r.en, r.ad, r.pt⟩
def sixR (r : Rr) (l : List Int) (q : Nat) : Rr := ⟨q, r.kd, (r.at0 : Int), (q : Int), wat4 l 0, wat l 4⟩
def sixO (zs : List Int) (p : Nat) : Option (List Int × Nat) := rowF zs cma 6 0 p
/-- What six numbers leave: what they say, if the port is not 0. -/
def SixQ (zs : List Int) (rb n₀ : Nat) (bv : Value) (r : Rr) (w w' : World) (e : Ending) : Prop :=
  But (fun g => g = rb) w w' ∧ ((sixO zs r.at0 = none ∧ e = .returned (.bool false)) ∨ ∃ x, sixO zs r.at0 = some x ∧ e = .returned (.bool (!decide (wat x.1 4 = 0))) ∧ x.2 ≤ zs.length ∧ RB w' rb bv (sixR r x.1 x.2))

set_option maxHeartbeats 8000000 in
theorem six_any (rb : Nat) (bb off cp n₀ : Nat) (zs : List Int) (hz : Mt.By zs) (r : Rr) (w : World) (h : RB w rb (.slice (some ⟨bb, off, none⟩) zs.length cp) r) (hI : Rd n₀ w (.slice (some ⟨bb, off, none⟩) zs.length cp) zs) (hl : zs.length ≤ 1000) (ha : r.at0 ≤ zs.length) (hn0 : n₀ ≤ w.heap.size) (hrb : n₀ ≤ rb) :
    Calls Tryd.prog 15 #[.pointer (some ⟨rb, 0, none⟩)] w fun e w' => SixQ zs rb n₀ (.slice (some ⟨bb, off, none⟩) zs.length cp) r w w' e := by
  have hrs : rb < w.heap.size := (Array.getElem?_eq_some_iff.1 h).1
  have la : Later w (w.alloc (.cells #[.int .u8 0, .int .u8 0, .int .u8 0, .int .u8 0, .int .u8 0, .int .u8 0] 72)) := (Below.refl _ _).alloc (Nat.le_refl _) _
  have hN := heap_alloc_new w (.cells #[.int .u8 0, .int .u8 0, .int .u8 0, .int .u8 0, .int .u8 0, .int .u8 0] 72)
  have hb1 := RB.later h la
  have hsz : (w.alloc (.cells #[.int .u8 0, .int .u8 0, .int .u8 0, .int .u8 0, .int .u8 0, .int .u8 0] 72)).heap.size = w.heap.size + 1 := by simp
  have HI := hide hI
  go_enter Tryd.func15, Tryd.ntmps15
  go_upto_region 2 with fail
  generalize w.alloc _ = w1 at *
  have kv := block_cell hb1
  have fv := block_frozen hb1
  unfold rrc at kv
  have hst : RB (w1.setCell ⟨rb, 3, none⟩ (.int .i64 (r.at0 : Int))) rb (.slice (some ⟨bb, off, none⟩) zs.length cp) (stR r (r.at0 : Int)) := heap_set1 hb1 3 (.int .i64 (r.at0 : Int))
  have hst2 : (w1.setCell ⟨rb, 3, none⟩ (.int .i64 (r.at0 : Int))).heap[w.heap.size]? = some (.cells #[.int .u8 0, .int .u8 0, .int .u8 0, .int .u8 0, .int .u8 0, .int .u8 0] 72 (0, 0)) := (Below.heap_setCell _ ⟨rb, 3, none⟩ _ w.heap.size (by simp; omega)).trans hN
  have hst3 : But (fun g => g = rb) w1 (w1.setCell ⟨rb, 3, none⟩ (.int .i64 (r.at0 : Int))) := (But.refl (fun g => g = rb) _).setCell (p := ⟨rb, 3, none⟩) rfl _
  go_upto_region 3 with fail
  generalize hV : w1.setCell ⟨rb, 3, none⟩ _ = w2 at *
  clear hV kv fv
  have h2s : w1.heap.size ≤ w2.heap.size := But.size hst3
  have HRW := hide (row_any rb w.heap.size 72 bb off cp n₀ 6 zs hz cma [.int .u8 0, .int .u8 0, .int .u8 0, .int .u8 0, .int .u8 0, .int .u8 0] (stR r (r.at0 : Int)) w2 hst hst2 (by simp) (HI.out.below ((Below.mono la (by omega)).trans (But.below hst3 (by omega) (fun k hk e => by omega)))) hl (by omega) (by decide) ha (by omega) hrb hn0 (by omega))
  unfold cma at HRW
  go_wp2_with fail
  refine HRW.out.mono ?_
  rintro e w3 ⟨o3, rfl, ho, _⟩
  have eo : rowF zs ⟨#[44]⟩ 6 0 (stR r (r.at0 : Int)).at0 = sixO zs r.at0 := rfl
  rw [eo] at ho ⊢
  have HSO : Hid (∃ o, sixO zs r.at0 = o) := ⟨_, rfl⟩
  obtain ⟨o, hoo⟩ := HSO.out
  rw [hoo] at ho ⊢
  have HOO := hide hoo
  have O3 : But (fun g => g = rb) w w3 := But.dropN ((But.of la).trans ((hst3.wk1 (fun k hk => .inl hk)).trans o3)) (Nat.le_refl _)
  have h3s : w.heap.size < w3.heap.size := by have := But.size o3; omega
  clear eo HSO hoo HRW hst hst2 hN hb1 h hI
  cases o with
  | none =>
    simp only [Option.isSome_none]
    go_wp2_with fail
    go_ret
    exact ⟨O3, .inl ⟨HOO.out, rfl⟩⟩
  | some x =>
    obtain ⟨b3, hx2, hn3⟩ := ho x rfl
    have hxl : x.1.length = 6 := rowF_len _ _ _ _ _ x HOO.out
    have hxb : Mt.By x.1 := rowF_by _ _ _ _ _ x HOO.out
    simp only [Option.isSome_some]
    have kv := block_cell b3
    have fv := block_frozen b3
    simp only [rrc, atR, stR] at kv
    have hst : RB (w3.setCell ⟨rb, 4, none⟩ (.int .i64 (x.2 : Int))) rb (.slice (some ⟨bb, off, none⟩) zs.length cp) ⟨x.2, r.kd, (r.at0 : Int), (x.2 : Int), r.ad, r.pt⟩ := heap_set1 b3 4 (.int .i64 (x.2 : Int))
    have hst2 : (w3.setCell ⟨rb, 4, none⟩ (.int .i64 (x.2 : Int))).heap[w.heap.size]? = some (.cells (x.1.map (Value.int .u8)).toArray 72 (0, 0)) := (Below.heap_setCell _ ⟨rb, 4, none⟩ _ w.heap.size (by simp; omega)).trans hn3
    have O4 : But (fun g => g = rb) w (w3.setCell ⟨rb, 4, none⟩ (.int .i64 (x.2 : Int))) := O3.setCell (p := ⟨rb, 4, none⟩) rfl _
    go_upto_region 6 with fail
    generalize hV : w3.setCell ⟨rb, 4, none⟩ _ = w4 at *
    clear hV kv fv ho
    have HE4 := hide hst
    have HN4 := hide hst2
    clear hst hst2 b3 hn3
    have hnlt : w.heap.size < w4.heap.size := (Array.getElem?_eq_some_iff.1 HN4.out).1
    refine anyT_begin (R := But (fun g => g = rb)) 14 rfl (by kernel_rfl) ?_
    have ld : Later w4 w4.drew := Later.drew w4
    have hE := RB.later HE4.out ld
    have hNd := later_keep ld HN4.out
    have OD : But (fun g => g = rb) w w4.drew := O4.trans (But.of ld)
    generalize w4.drew = Wd at *
    refine anyT_val (But.pre _) 0 rfl (by kernel_rfl) (by kernel_rfl) (by kernel_rfl) (fun _ _ _ _ h => h) rfl ?_; apply Exists.intro; refine ⟨fun v1 hv1 => ?_, ?_⟩; (· (go_simp; rfl)); simp only [Act.put, List.setIfInBounds_toArray, List.set_cons_zero, List.set_cons_succ]
    refine anyT_val (But.pre _) 1 rfl (by kernel_rfl) (by kernel_rfl) (by kernel_rfl) (fun _ _ _ _ h => h) rfl ?_; apply Exists.intro; refine ⟨fun v1 hv1 => ?_, ?_⟩; (· (go_simp; rfl)); simp only [Act.put, List.setIfInBounds_toArray, List.set_cons_zero, List.set_cons_succ]
    refine anyT_val (But.pre _) 2 rfl (by kernel_rfl) (by kernel_rfl) (by kernel_rfl) (fun _ _ _ _ h => h) rfl ?_; apply Exists.intro; refine ⟨fun v1 hv1 => ?_, ?_⟩; (· (go_simp; rfl)); simp only [Act.put, List.setIfInBounds_toArray, List.set_cons_zero, List.set_cons_succ]
    refine anyT_val (But.pre _) 4 rfl (by kernel_rfl) (by kernel_rfl) (by kernel_rfl) (fun _ _ _ _ h => h) rfl ?_; apply Exists.intro; refine ⟨fun v1 hv1 => ?_, ?_⟩; (· (go_simp; rfl)); simp only [Act.put, List.setIfInBounds_toArray, List.set_cons_zero, List.set_cons_succ]
    have hR : ∀ W, Later Wd W → Rd W.heap.size W (.slice (some ⟨w.heap.size, 0, none⟩) 6 6) x.1 := fun W h => by
      have := rd_blk (later_keep h hNd) (by intro e; rw [e] at hxl; cases hxl) (by omega)
      rw [hxl] at this
      exact this
    have HR := hide hR
    clear hR
    refine anyT_one 3 rfl (by kernel_rfl) rfl ?_
    refine wp_enter 33 #[.slice (some ⟨w.heap.size, 0, none⟩) 6 6, .int .i64 0] (by go_simp) ?_
    refine (get32_rd _ x.1 hxb 0 (by omega) Wd (HR.out Wd (Later.refl _))).mono ?_
    rintro e V1 ⟨rfl, n1, hn1⟩
    have l1 : Later Wd V1 := by rw [hn1]; exact below_draw (Later.refl _) _
    clear hn1
    refine ⟨But.of l1, ?_⟩
    simp only [Act.put, List.setIfInBounds_toArray, List.set_cons_zero, List.set_cons_succ]
    refine anyT_one 5 rfl (by kernel_rfl) rfl ?_
    refine wp_enter 34 #[.slice (some ⟨w.heap.size, 0, none⟩) 6 6, .int .i64 4] (by go_simp) ?_
    refine (get16_rd _ x.1 hxb 4 (by omega) V1 (HR.out V1 l1)).mono ?_
    rintro e V2 ⟨rfl, n2, hn2⟩
    have l2 : Later V1 V2 := by rw [hn2]; exact below_draw (Later.refl _) _
    clear hn2
    refine ⟨But.of l2, ?_⟩
    simp only [Act.put, List.setIfInBounds_toArray, List.set_cons_zero, List.set_cons_succ]
    have b2 := RB.later hE (l1.trans l2)
    have O2 : But (fun g => g = rb) w V2 := OD.trans (But.of (l1.trans l2))
    generalize hw4 : wat4 x.1 0 = a4 at *
    generalize hw2 : wat x.1 4 = p2 at *
    have HW4 := hide hw4
    have HW2 := hide hw2
    clear hw4 hw2
    refine anyT_val (But.pre _) 6 rfl (by kernel_rfl) (by kernel_rfl) (by kernel_rfl) (fun _ _ _ _ h => h) rfl ?_; apply Exists.intro; refine ⟨fun v1 hv1 => ?_, ?_⟩; (· (go_simp; rfl)); simp only [Act.put, List.setIfInBounds_toArray, List.set_cons_zero, List.set_cons_succ]
    refine anyT_val (But.pre _) 7 rfl (by kernel_rfl) (by kernel_rfl) (by kernel_rfl) (fun _ _ _ _ h => h) rfl ?_; apply Exists.intro; refine ⟨fun v1 hv1 => ?_, ?_⟩; (· (go_simp; rfl)); simp only [Act.put, List.setIfInBounds_toArray, List.set_cons_zero, List.set_cons_succ]
    refine anyT_val (But.pre _) 8 rfl (by kernel_rfl) (by kernel_rfl) (by kernel_rfl) (fun _ _ _ _ h => h) rfl ?_; apply Exists.intro; refine ⟨fun v1 hv1 => ?_, ?_⟩; (· (go_simp; rfl)); simp only [Act.put, List.setIfInBounds_toArray, List.set_cons_zero, List.set_cons_succ]
    have kv := block_cell b2
    have fv := block_frozen b2
    simp only [rrc] at kv
    have hs1 : RB (V2.setCell ⟨rb, 5, none⟩ (.int .u32 a4)) rb (.slice (some ⟨bb, off, none⟩) zs.length cp) ⟨x.2, r.kd, (r.at0 : Int), (x.2 : Int), a4, r.pt⟩ := heap_set1 b2 5 (.int .u32 a4)
    have OA : But (fun g => g = rb) V2 (V2.setCell ⟨rb, 5, none⟩ (.int .u32 a4)) := (But.refl (fun g => g = rb) _).setCell (p := ⟨rb, 5, none⟩) rfl _
    have HOA := hide OA
    clear OA
    refine anyT_one 9 rfl (by kernel_rfl) rfl ?_
    unfold Oper.wp
    go_simp
    generalize hV3 : V2.setCell ⟨rb, 5, none⟩ _ = V3 at *
    refine ⟨HOA.out, ?_⟩
    clear hV3 kv fv b2
    refine anyT_val (But.pre _) 10 rfl (by kernel_rfl) (by kernel_rfl) (by kernel_rfl) (fun _ _ _ _ h => h) rfl ?_; apply Exists.intro; refine ⟨fun v1 hv1 => ?_, ?_⟩; (· (go_simp; rfl)); simp only [Act.put, List.setIfInBounds_toArray, List.set_cons_zero, List.set_cons_succ]
    refine anyT_val (But.pre _) 11 rfl (by kernel_rfl) (by kernel_rfl) (by kernel_rfl) (fun _ _ _ _ h => h) rfl ?_; apply Exists.intro; refine ⟨fun v1 hv1 => ?_, ?_⟩; (· (go_simp; rfl)); simp only [Act.put, List.setIfInBounds_toArray, List.set_cons_zero, List.set_cons_succ]
    refine anyT_val (But.pre _) 12 rfl (by kernel_rfl) (by kernel_rfl) (by kernel_rfl) (fun _ _ _ _ h => h) rfl ?_; apply Exists.intro; refine ⟨fun v1 hv1 => ?_, ?_⟩; (· (go_simp; rfl)); simp only [Act.put, List.setIfInBounds_toArray, List.set_cons_zero, List.set_cons_succ]
    have kv := block_cell hs1
    have fv := block_frozen hs1
    simp only [rrc] at kv
    have hs2 : RB (V3.setCell ⟨rb, 6, none⟩ (.int .u16 p2)) rb (.slice (some ⟨bb, off, none⟩) zs.length cp) ⟨x.2, r.kd, (r.at0 : Int), (x.2 : Int), a4, p2⟩ := heap_set1 hs1 6 (.int .u16 p2)
    have OB : But (fun g => g = rb) V3 (V3.setCell ⟨rb, 6, none⟩ (.int .u16 p2)) := (But.refl (fun g => g = rb) _).setCell (p := ⟨rb, 6, none⟩) rfl _
    have HOB := hide OB
    clear OB
    refine anyT_one 13 rfl (by kernel_rfl) rfl ?_
    unfold Oper.wp
    go_simp
    generalize hV4 : V3.setCell ⟨rb, 6, none⟩ _ = V4 at *
    refine ⟨HOB.out, anyT_done (by kernel_rfl) ?_⟩
    clear hV4 kv fv hs1
    have kv := block_cell hs2
    simp only [rrc] at kv
    have HF := hide hs2
    clear hs2
    have OF := O2.trans (HOA.out.trans HOB.out)
    by_cases hp0 : p2 = 0
    case' pos =>
      have hpb : (p2 != 0) = false := by simp [hp0]
      have HPB : Hid (decide (p2 = 0) = true) := decide_eq_true hp0
    case' neg =>
      have hpb : (p2 != 0) = true := by simp [hp0]
      have HPB : Hid (decide (p2 = 0) = false) := decide_eq_false hp0
    all_goals
      clear hp0
      go_wp2_with fail
      go_ret
      refine ⟨OF, .inr ⟨x, HOO.out, by rw [HW2.out, HPB.out]; first | rfl | simp, hx2, ?_⟩⟩
      have := HF.out
      unfold sixR
      rw [HW4.out, HW2.out]
      exact this
end Go.Proofs.YtfnlakpjepjhbaaDoor
