/- The document's Drop of a table. -/
import Derived.Test.YtahphjindjlcpaaBU
import Derived.Deep.Upon
namespace Go.Proofs.Ytahphjindjlcpaa
open Go.RowKit Go.Shelf
set_option maxRecDepth 100000
set_option linter.unusedVariables false
set_option linter.unusedSimpArgs false

theorem rws_takeD (l : List Rw) (k : Nat) (hk : k ≤ l.length) : (rws l).take (k * 8) = rws (l.take k) := by
  conv => lhs; rw [← List.take_append_drop k l]
  rw [rws_append, List.take_left' (by rw [rws_length, List.length_take, Nat.min_eq_left hk])]
/-- The first of one's own. -/
theorem ownD_take {base : Nat} {W : World} {g n cap : Nat} {l : List Rw} (k : Nat) (hk : k ≤ l.length) (h : W.ownsRow base 86 8 (.slice (some ⟨g, 0, none⟩) n cap) l.length (rws l)) : W.ownsRow base 86 8 (.slice (some ⟨g, 0, none⟩) k cap) k (rws (l.take k)) := by
  obtain ⟨h1, ⟨e, _⟩ | ⟨g2, cap2, cur, e, hg, hh, hl, hm, hs, hc⟩⟩ := h
  · cases e
  · cases e
    refine ⟨by rw [rws_length, List.length_take, Nat.min_eq_left hk], .inr ⟨g, cap, cur, rfl, hg, hh, by omega, hm, hs, ?_⟩⟩
    rw [← rws_takeD l k hk, ← hc, List.take_take, Nat.min_eq_left (by omega)]
theorem rws_oneD (l : List Rw) : ∀ u ∈ rws l, u.oneCell' = true := fun u hu => by
  obtain ⟨r, _, hr⟩ := List.mem_flatMap.1 hu
  simp only [rwc, List.mem_cons, List.not_mem_nil, or_false] at hr
  rcases hr with rfl | rfl | rfl | rfl | rfl | rfl | rfl | rfl <;> rfl

theorem addr_add' (b off k : Nat) : (⟨b, off, none⟩ : Addr).add k = ⟨b, off + k, none⟩ := by unfold Addr.add; split <;> simp_all
theorem erase_eqR (l : List Rw) (i : Nat) : l.eraseIdx i = l.take i ++ l.drop (i + 1) := List.eraseIdx_eq_take_drop_succ l i
/-- All of a list appended onto one's own. -/
theorem appD (w : World) (ty : TypeId) (base n₀ : Nat) (v : Value) (xs : List Rw) (sv : Value) (ys : List Rw) (hown : w.ownsRow base 86 8 v xs.length (rws xs)) (hI : RdR n₀ w sv ys) (hbase : base ≤ w.heap.size) (hs : xs.length + ys.length ≤ 10000) :
    ∃ v' w', (Builtin.append_ #[67, 67] ty #[v, sv]).run Try.prog w = .ok v' w' ∧ w'.ownsRow base 86 8 v' (xs ++ ys).length (rws (xs ++ ys)) ∧ w.grownBy w' v.ownBlock ∧ (v'.ownBlock = v.ownBlock ∨ v'.ownBlock = some w.heap.size) := by
  obtain ⟨i0, hi0, hz0, hz1, hz2⟩ := info_parts info_drow
  rcases hI with ⟨a, cap, rfl, rfl, hcm, ha⟩ | ⟨b, off, cap, rfl, hne, hl, hm, hb, hc⟩
  · obtain ⟨av, cv, rfl, hv1, hv2⟩ := (ownD_rd hown).slice
    refine ⟨_, w, run_append_nothing w _ _ ty _ i0 Try.underlying67 hi0 av xs.length cv hv1 (.slice a 0 cap) ?_, by rw [List.append_nil]; exact hown, ⟨rfl, rfl, rfl, Nat.le_refl _, fun _ _ _ => rfl⟩, .inl rfl⟩
    refine ⟨.inl ⟨_, Try.underlying67⟩, fun w' => ?_, ?_, ?_, by simp, by simp⟩ <;> cases a <;> simp [Builtin.lenOf, Builtin.firstCells, go_sem]
  · have hp : 0 < ys.length := List.length_pos_iff.2 hne
    obtain ⟨g, cap', w', hr, h2, h3, h4, h5⟩ := run_append_lies (P := Try.prog) w 67 ty base 86 i0 _ 8 40 Try.underlying67 hi0 hz0 hz1 hz2 rfl (by decide) v xs.length (rws xs) hown ⟨b, off, none⟩ ys.length cap (rws ys) (rws_length ys) (fun j u hj => by
      have hlt := (List.getElem?_eq_some_iff.1 hj).1
      rw [rws_length] at hlt
      rw [addr_add']
      have h1 := hc (j / 8) (by omega) (j % 8) (Nat.mod_lt _ (by omega))
      rw [← rws_at ys (j / 8) (j % 8) (by omega) (Nat.mod_lt _ (by omega)), show j / 8 * 8 + j % 8 = j from by omega, hj] at h1
      rw [← h1]
      congr 2
      omega) (rws_oneD ys) hp (by unfold maxLen; omega) (by omega) hbase _ rfl
    refine ⟨_, w', hr, by rw [List.length_append, rws_append]; exact h2, h3, ?_⟩
    rcases h4 with h4 | h4
    · exact .inl (by rw [h4]; rfl)
    · exact .inr (by rw [h4]; rfl)

/-- What is behind some of one's own, as a slice reads it. -/
theorem ownD_drop {base : Nat} {W : World} {g cap : Nat} {l : List Rw} (k : Nat) (hk : k ≤ l.length) (h : W.ownsRow base 86 8 (.slice (some ⟨g, 0, none⟩) l.length cap) l.length (rws l)) :
    RdR W.heap.size W (.slice (if cap = k then some ⟨g, 0, none⟩ else some ⟨g, k * 8, none⟩) (l.length - k) (cap - k)) (l.drop k) := by
  obtain ⟨h1, ⟨e, _⟩ | ⟨g2, cap2, cur, e, hg, hh, hl, hm, hs, hc⟩⟩ := h
  · cases e
  · cases e
    have hm' : cap ≤ 9223372036854775807 := by simpa [maxLen] using hm
    by_cases h0 : l.length = k
    · subst h0
      exact .inl ⟨_, _, by rw [Nat.sub_self], by simp, by omega, fun h => by split at h <;> cases h⟩
    · refine .inr ⟨g, k * 8, cap - k, by rw [if_neg (by omega), List.length_drop], fun e => by have := congrArg List.length e; simp at this; omega, by simp; omega, by omega, (Array.getElem?_eq_some_iff.1 hh).1, fun j hj i hi => ?_⟩
      have hj' : k + j < l.length := by simp at hj; omega
      rw [block_cell hh, show k * 8 + j * 8 + i = (k + j) * 8 + i from by omega, List.getElem_drop, ← rws_at l (k + j) i hj' hi, ← hc, List.getElem?_take_of_lt (by omega)]
      simp


/-- What the document's Drop answers. -/
def rde (l : List Rw) (p s d a b : Int) : Int := if kix p s d (kyp p a) b l = none then 11 else 0

set_option maxHeartbeats 8000000 in
theorem rtdrop_any (base bt : Nat) (v : Value) (lim sq : Int) (l : List Rw) (p s d a b : Int) (w : World) (hT : DT base w bt v lim sq l) (hl : l.length ≤ 5000) (hbs : base ≤ w.heap.size) :
    Calls Try.prog 30 #[.pointer (some ⟨bt, 0, none⟩), .agg #[.int .u8 p, .int .u32 s, .int .u32 d, .int .u16 a, .int .u16 b]] w fun e w' => e = .returned (.int .i64 (rde l p s d a b)) ∧
      ((kix p s d (kyp p a) b l = none ∧ DTq base w w' bt v lim sq l) ∨ (∃ k, kix p s d (kyp p a) b l = some k ∧ DTq base w w' bt v lim sq (l.eraseIdx k))) := by
  have lb0 : Later w (w.alloc (.cells #[.int .u8 p, .int .u32 s, .int .u32 d, .int .u16 a, .int .u16 b] 26)) := (Below.refl _ _).alloc (Nat.le_refl _) _
  have t0 := heap_alloc_new w (.cells #[.int .u8 p, .int .u32 s, .int .u32 d, .int .u16 a, .int .u16 b] 26)
  obtain ⟨av, cv, rfl, hcl, hcm⟩ := (ownD_rd hT.2.2).slice
  have HAT := hide (fun W (hW : Later w W) => at_any base bt _ lim sq l p s d a b W (hT.later hW))
  have k0 := block_cell t0
  go_enter Try.func30, Try.ntmps30
  go_wp2_with fail
  generalize w.alloc _ = w0 at *
  refine (HAT.out w0 lb0).mono ?_
  rintro e w1 ⟨rfl, l1⟩
  have L1 := lb0.trans l1
  clear k0
  cases hkx : kix p s d (kyp p a) b l with
  | none =>
    have hpe : rde l p s d a b = 11 := by unfold rde; rw [hkx]; simp
    have HPE := hide hpe
    have HKX := hide hkx
    clear hpe hkx
    rw [rix_none]
    go_wp2_with fail
    go_ret
    exact ⟨by rw [HPE.out]; rfl, .inl ⟨HKX.out, DTq.same hT L1⟩⟩
  | some j =>
    have hpe : rde l p s d a b = 0 := by unfold rde; rw [hkx]; simp
    have hj := kix_lt hkx
    have HPE := hide hpe
    have HKX := hide hkx
    clear hpe hkx
    rw [rix_some]
    have hk0 : ¬ (j : Int) < 0 := by omega
    obtain ⟨g, cap, rfl, rfl⟩ : ∃ g cap, av = some ⟨g, 0, none⟩ ∧ cv = cap := by
      obtain ⟨_, ⟨e, e2⟩ | ⟨g2, cap2, cur, e, _⟩⟩ := hT.2.2
      · omega
      · cases e
        exact ⟨g2, cv, rfl, rfl⟩
    go_upto_region 7 with fail
    have h2 : (j : Int) + 1 ≤ 9223372036854775807 := by omega
    have HJ := hide hj
    have i1 : (j : Int) ≤ cv := by omega
    have i2 : (j : Int) + 1 ≤ l.length := by omega
    have i3 : (l.length : Int) ≤ cv := by omega
    have i4 : ¬ cv = 0 := by omega
    have i5 : j ≤ cv := by omega
    have i6 : j + 1 ≤ l.length := by omega
    have HT := hide hT
    clear hj
    refine anyT_begin (R := But (fun x => w.heap.size ≤ x)) 17 rfl (by kernel_rfl) ?_
    have ld : Later w w1.drew := L1.trans (Later.drew w1)
    have hsd : w.heap.size ≤ w1.drew.heap.size := ld.size
    generalize w1.drew = Wd at *
    have hbd : ∀ v1, But (fun x => w.heap.size ≤ x) Wd v1 → ∀ j, v1.cell? ⟨bt, j, none⟩ = #[Value.slice (some ⟨g, 0, none⟩) l.length cv, .int .i64 lim, .int .i64 sq][j]? := fun v1 hv => block_cell ((hv.block bt (by have := HT.out.blt; omega) (fun e => by have := HT.out.blt; omega)).trans (HT.out.later ld).2.1)
    have hwr : IntKind.i64.wrap ((j : Int) + 1) = (j : Int) + 1 := by simp [IntKind.wrap, IntKind.bits, IntKind.signed]; omega
    have HWR := hide hwr
    clear hwr
    by_cases hcap : cv = j + 1
    · subst hcap
      have i7 : (j : Int) ≤ (j : Int) + 1 := by omega
      have i8 : (l.length : Int) ≤ (j : Int) + 1 := by omega
      refine anyT_val (But.pre _) 0 rfl (by kernel_rfl) (by kernel_rfl) (by kernel_rfl) (fun _ _ _ _ h => h) rfl ?_; apply Exists.intro; refine ⟨fun v1 hv1 => ?_, ?_⟩; (· (go_simp; rfl)); simp only [Act.put, List.setIfInBounds_toArray, List.set_cons_zero, List.set_cons_succ]
      refine anyT_val (But.pre _) 1 rfl (by kernel_rfl) (by kernel_rfl) (by kernel_rfl) (fun _ _ _ _ h => h) rfl ?_; apply Exists.intro; refine ⟨fun v1 hv1 => ?_, ?_⟩; (· (go_simp; rfl)); simp only [Act.put, List.setIfInBounds_toArray, List.set_cons_zero, List.set_cons_succ]
      refine anyT_val (But.pre _) 2 rfl (by kernel_rfl) (by kernel_rfl) (by kernel_rfl) (fun _ _ _ _ h => h) rfl ?_; apply Exists.intro; refine ⟨fun v1 hv1 => ?_, ?_⟩; (· (go_simp; rfl)); simp only [Act.put, List.setIfInBounds_toArray, List.set_cons_zero, List.set_cons_succ]
      refine anyT_val (But.pre _) 3 rfl (by kernel_rfl) (by kernel_rfl) (by kernel_rfl) (fun _ _ _ _ h => h) rfl ?_; apply Exists.intro; refine ⟨fun v1 hv1 => ?_, ?_⟩; (· (go_simp; rfl)); simp only [Act.put, List.setIfInBounds_toArray, List.set_cons_zero, List.set_cons_succ]
      refine anyT_val (But.pre _) 4 rfl (by kernel_rfl) (by kernel_rfl) (by kernel_rfl) (fun _ _ _ _ h => h) rfl ?_; apply Exists.intro; refine ⟨fun v1 hv1 => ?_, ?_⟩; (· (go_simp; rfl)); simp only [Act.put, List.setIfInBounds_toArray, List.set_cons_zero, List.set_cons_succ]
      refine anyT_val (But.pre _) 5 rfl (by kernel_rfl) (by kernel_rfl) (by kernel_rfl) (fun _ _ _ _ h => h) rfl ?_; apply Exists.intro; refine ⟨fun v1 hv1 => ?_, ?_⟩; (· (go_simp; rfl)); simp only [Act.put, List.setIfInBounds_toArray, List.set_cons_zero, List.set_cons_succ]
      refine anyT_val (But.pre _) 6 rfl (by kernel_rfl) (by kernel_rfl) (by kernel_rfl) (fun _ _ _ _ h => h) rfl ?_; apply Exists.intro; refine ⟨fun v1 hv1 => ?_, ?_⟩; (· (go_simp; rfl)); simp only [Act.put, List.setIfInBounds_toArray, List.set_cons_zero, List.set_cons_succ]
      refine anyT_val (But.pre _) 8 rfl (by kernel_rfl) (by kernel_rfl) (by kernel_rfl) (fun _ _ _ _ h => h) rfl ?_; apply Exists.intro; refine ⟨fun v1 hv1 => ?_, ?_⟩; (· (go_simp; rfl)); simp only [Act.put, List.setIfInBounds_toArray, List.set_cons_zero, List.set_cons_succ]
      refine anyT_val (But.pre _) 9 rfl (by kernel_rfl) (by kernel_rfl) (by kernel_rfl) (fun _ _ _ _ h => h) rfl ?_; apply Exists.intro; refine ⟨fun v1 hv1 => ?_, ?_⟩; (· (go_simp; rfl)); simp only [Act.put, List.setIfInBounds_toArray, List.set_cons_zero, List.set_cons_succ]
      refine anyT_val (But.pre _) 10 rfl (by kernel_rfl) (by kernel_rfl) (by kernel_rfl) (fun _ _ _ _ h => h) rfl ?_; apply Exists.intro; refine ⟨fun v1 hv1 => ?_, ?_⟩; (· (go_simp; rfl)); simp only [Act.put, List.setIfInBounds_toArray, List.set_cons_zero, List.set_cons_succ]
      refine anyT_val (But.pre _) 11 rfl (by kernel_rfl) (by kernel_rfl) (by kernel_rfl) (fun _ _ _ _ h => h) rfl ?_; apply Exists.intro; refine ⟨fun v1 hv1 => ?_, ?_⟩; (· (go_simp; rfl)); simp only [Act.put, List.setIfInBounds_toArray, List.set_cons_zero, List.set_cons_succ]
      refine anyT_val (But.pre _) 12 rfl (by kernel_rfl) (by kernel_rfl) (by kernel_rfl) (fun _ _ _ _ h => h) rfl ?_; apply Exists.intro; refine ⟨fun v1 hv1 => ?_, ?_⟩; (· (go_simp; rfl)); simp only [Act.put, List.setIfInBounds_toArray, List.set_cons_zero, List.set_cons_succ]
      refine anyT_val (But.pre _) 13 rfl (by kernel_rfl) (by kernel_rfl) (by kernel_rfl) (fun _ _ _ _ h => h) rfl ⟨.int .i64 ((j : Int) + 1), fun v1 hv1 => by go_simp; rw [HWR.out], ?_⟩
      simp only [Act.put, List.setIfInBounds_toArray, List.set_cons_zero, List.set_cons_succ]
      refine anyT_val (But.pre _) 14 rfl (by kernel_rfl) (by kernel_rfl) (by kernel_rfl) (fun _ _ _ _ h => h) rfl ?_; apply Exists.intro; refine ⟨fun v1 hv1 => ?_, ?_⟩; (· (go_simp; rfl)); simp only [Act.put, List.setIfInBounds_toArray, List.set_cons_zero, List.set_cons_succ]
      clear hbd
      have hr0 : Wd.ownsRow base 86 8 (.slice none 0 0) ([] : List Rw).length (rws []) := ⟨rfl, .inl ⟨rfl, rfl⟩⟩
      obtain ⟨v1, W1, q1, q2, q3, q4⟩ := appD Wd 67 base Wd.heap.size (.slice none 0 0) [] (.slice (some ⟨g, 0, none⟩) j (j + 1)) (l.take j) hr0 (ownD_rd (l := l.take j) (by rw [List.length_take, Nat.min_eq_left (by omega)]; exact ownD_take j (by omega) (HT.out.later ld).2.2)) (by omega) (by simp; omega)
      have b1 : But (fun x => w.heap.size ≤ x) Wd W1 := ⟨q3.os, q3.tape, q3.output, q3.size, fun k hk he => q3.block k hk (fun e => by cases e)⟩
      have l1 : Later Wd W1 := ⟨q3.os, q3.tape, q3.output, q3.size, fun k hk => q3.block k hk (fun e => by cases e)⟩
      have L1 := ld.trans l1
      have hs1 := L1.size
      refine anyT_one 7 rfl (by kernel_rfl) rfl ?_
      refine wp_app (.tmp 14) (.tmp 20) 67 rfl _ _ rfl rfl _ W1 q1 ⟨b1, ?_⟩
      simp only [Act.put, List.setIfInBounds_toArray, List.set_cons_zero, List.set_cons_succ]
      have hd1 := ownD_drop (j + 1) (by omega) (HT.out.later L1).2.2
      rw [if_pos rfl, Nat.sub_self, show l.length - (j + 1) = 0 from by omega] at hd1
      obtain ⟨v2, W2, p1, p2, p3, p4⟩ := appD W1 67 base W1.heap.size v1 ([] ++ l.take j) _ (l.drop (j + 1)) q2 hd1 (by omega) (by simp; omega)
      have f1 : ∀ x, v1.ownBlock = some x → w.heap.size ≤ x := fun x hx => by
        rcases q4 with h | h
        · rw [h] at hx; cases hx
        · rw [h] at hx; cases hx; omega
      have f2 : ∀ x, v2.ownBlock = some x → w.heap.size ≤ x := fun x hx => by
        rcases p4 with h | h
        · rw [h] at hx; exact f1 x hx
        · rw [h] at hx; cases hx; omega
      have b2 : But (fun x => w.heap.size ≤ x) W1 W2 := ⟨p3.os, p3.tape, p3.output, p3.size, fun k hk he => p3.block k hk (fun e => he (f1 k e.symm))⟩
      rw [List.nil_append, ← erase_eqR] at p2
      obtain ⟨a2, c2, rfl, _, _⟩ := (ownD_rd p2).slice
      refine anyT_one 15 rfl (by kernel_rfl) rfl ?_
      refine wp_app (.tmp 21) (.tmp 28) 67 rfl _ _ rfl rfl _ W2 p1 ⟨b2, ?_⟩
      simp only [Act.put, List.setIfInBounds_toArray, List.set_cons_zero, List.set_cons_succ]
      refine anyT_one 16 rfl (by kernel_rfl) rfl ?_
      unfold Oper.wp
      go_simp
      refine ⟨But.refl _ _, ?_⟩
      refine anyT_done (by kernel_rfl) ?_
      have bz : But (fun x => w.heap.size ≤ x) w W2 := (But.of ld).trans (b1.trans b2)
      have hb0 := (bz.block bt HT.out.blt (fun e => by have := HT.out.blt; omega)).trans HT.out.2.1
      have kz := block_cell hb0
      have fz := block_frozen hb0
      have P2 := hide p2
      have F2 := hide f2
      clear p2 f2 q2 p1 q1 hd1 q4 p4 f1 hr0
      go_wp2_with fail
      go_ret
      refine ⟨by rw [HPE.out]; rfl, .inr ⟨j, HKX.out, ?_⟩⟩
      have bs : But (fun x => x = bt ∨ Value.ownBlock (.slice (some ⟨g, 0, none⟩) l.length (j + 1)) = some x) w (W2.setCell ⟨bt, 0, none⟩ (.slice a2 (l.eraseIdx j).length c2)) := by
        refine ⟨bz.os, bz.tape, bz.output, Nat.le_trans bz.size (by simp), fun k hk he => ?_⟩
        exact (Below.heap_setCell W2 ⟨bt, 0, none⟩ _ k (fun e => he (.inl e))).trans (bz.block k hk (fun e => by omega))
      refine ⟨.slice a2 (l.eraseIdx j).length c2, ⟨HT.out.1, heap_set1 hb0 0 _, ?_⟩, bs, .inr F2.out⟩
      obtain ⟨s1, s2 | ⟨g2, cap2, cur, e, s2, s3, s4⟩⟩ := P2.out
      · exact ⟨s1, .inl s2⟩
      · refine ⟨s1, .inr ⟨g2, cap2, cur, e, s2, hset_ne s3 (fun e2 => ?_), s4⟩⟩
        rw [e2, hb0] at s3
        simp at s3
    · have hn : True := trivial
      refine anyT_val (But.pre _) 0 rfl (by kernel_rfl) (by kernel_rfl) (by kernel_rfl) (fun _ _ _ _ h => h) rfl ?_; apply Exists.intro; refine ⟨fun v1 hv1 => ?_, ?_⟩; (· (go_simp; rfl)); simp only [Act.put, List.setIfInBounds_toArray, List.set_cons_zero, List.set_cons_succ]
      refine anyT_val (But.pre _) 1 rfl (by kernel_rfl) (by kernel_rfl) (by kernel_rfl) (fun _ _ _ _ h => h) rfl ?_; apply Exists.intro; refine ⟨fun v1 hv1 => ?_, ?_⟩; (· (go_simp; rfl)); simp only [Act.put, List.setIfInBounds_toArray, List.set_cons_zero, List.set_cons_succ]
      refine anyT_val (But.pre _) 2 rfl (by kernel_rfl) (by kernel_rfl) (by kernel_rfl) (fun _ _ _ _ h => h) rfl ?_; apply Exists.intro; refine ⟨fun v1 hv1 => ?_, ?_⟩; (· (go_simp; rfl)); simp only [Act.put, List.setIfInBounds_toArray, List.set_cons_zero, List.set_cons_succ]
      refine anyT_val (But.pre _) 3 rfl (by kernel_rfl) (by kernel_rfl) (by kernel_rfl) (fun _ _ _ _ h => h) rfl ?_; apply Exists.intro; refine ⟨fun v1 hv1 => ?_, ?_⟩; (· (go_simp; rfl)); simp only [Act.put, List.setIfInBounds_toArray, List.set_cons_zero, List.set_cons_succ]
      refine anyT_val (But.pre _) 4 rfl (by kernel_rfl) (by kernel_rfl) (by kernel_rfl) (fun _ _ _ _ h => h) rfl ?_; apply Exists.intro; refine ⟨fun v1 hv1 => ?_, ?_⟩; (· (go_simp; rfl)); simp only [Act.put, List.setIfInBounds_toArray, List.set_cons_zero, List.set_cons_succ]
      refine anyT_val (But.pre _) 5 rfl (by kernel_rfl) (by kernel_rfl) (by kernel_rfl) (fun _ _ _ _ h => h) rfl ?_; apply Exists.intro; refine ⟨fun v1 hv1 => ?_, ?_⟩; (· (go_simp; rfl)); simp only [Act.put, List.setIfInBounds_toArray, List.set_cons_zero, List.set_cons_succ]
      refine anyT_val (But.pre _) 6 rfl (by kernel_rfl) (by kernel_rfl) (by kernel_rfl) (fun _ _ _ _ h => h) rfl ?_; apply Exists.intro; refine ⟨fun v1 hv1 => ?_, ?_⟩; (· (go_simp; rfl)); simp only [Act.put, List.setIfInBounds_toArray, List.set_cons_zero, List.set_cons_succ]
      refine anyT_val (But.pre _) 8 rfl (by kernel_rfl) (by kernel_rfl) (by kernel_rfl) (fun _ _ _ _ h => h) rfl ?_; apply Exists.intro; refine ⟨fun v1 hv1 => ?_, ?_⟩; (· (go_simp; rfl)); simp only [Act.put, List.setIfInBounds_toArray, List.set_cons_zero, List.set_cons_succ]
      refine anyT_val (But.pre _) 9 rfl (by kernel_rfl) (by kernel_rfl) (by kernel_rfl) (fun _ _ _ _ h => h) rfl ?_; apply Exists.intro; refine ⟨fun v1 hv1 => ?_, ?_⟩; (· (go_simp; rfl)); simp only [Act.put, List.setIfInBounds_toArray, List.set_cons_zero, List.set_cons_succ]
      refine anyT_val (But.pre _) 10 rfl (by kernel_rfl) (by kernel_rfl) (by kernel_rfl) (fun _ _ _ _ h => h) rfl ?_; apply Exists.intro; refine ⟨fun v1 hv1 => ?_, ?_⟩; (· (go_simp; rfl)); simp only [Act.put, List.setIfInBounds_toArray, List.set_cons_zero, List.set_cons_succ]
      refine anyT_val (But.pre _) 11 rfl (by kernel_rfl) (by kernel_rfl) (by kernel_rfl) (fun _ _ _ _ h => h) rfl ?_; apply Exists.intro; refine ⟨fun v1 hv1 => ?_, ?_⟩; (· (go_simp; rfl)); simp only [Act.put, List.setIfInBounds_toArray, List.set_cons_zero, List.set_cons_succ]
      refine anyT_val (But.pre _) 12 rfl (by kernel_rfl) (by kernel_rfl) (by kernel_rfl) (fun _ _ _ _ h => h) rfl ?_; apply Exists.intro; refine ⟨fun v1 hv1 => ?_, ?_⟩; (· (go_simp; rfl)); simp only [Act.put, List.setIfInBounds_toArray, List.set_cons_zero, List.set_cons_succ]
      refine anyT_val (But.pre _) 13 rfl (by kernel_rfl) (by kernel_rfl) (by kernel_rfl) (fun _ _ _ _ h => h) rfl ⟨.int .i64 ((j : Int) + 1), fun v1 hv1 => by go_simp; rw [HWR.out], ?_⟩
      simp only [Act.put, List.setIfInBounds_toArray, List.set_cons_zero, List.set_cons_succ]
      refine anyT_val (But.pre _) 14 rfl (by kernel_rfl) (by kernel_rfl) (by kernel_rfl) (fun _ _ _ _ h => h) rfl ?_; apply Exists.intro; refine ⟨fun v1 hv1 => ?_, ?_⟩; (· (go_simp; rfl)); simp only [Act.put, List.setIfInBounds_toArray, List.set_cons_zero, List.set_cons_succ]
      clear hbd
      have hr0 : Wd.ownsRow base 86 8 (.slice none 0 0) ([] : List Rw).length (rws []) := ⟨rfl, .inl ⟨rfl, rfl⟩⟩
      obtain ⟨v1, W1, q1, q2, q3, q4⟩ := appD Wd 67 base Wd.heap.size (.slice none 0 0) [] (.slice (some ⟨g, 0, none⟩) j cv) (l.take j) hr0 (ownD_rd (l := l.take j) (by rw [List.length_take, Nat.min_eq_left (by omega)]; exact ownD_take j (by omega) (HT.out.later ld).2.2)) (by omega) (by simp; omega)
      have b1 : But (fun x => w.heap.size ≤ x) Wd W1 := ⟨q3.os, q3.tape, q3.output, q3.size, fun k hk he => q3.block k hk (fun e => by cases e)⟩
      have l1 : Later Wd W1 := ⟨q3.os, q3.tape, q3.output, q3.size, fun k hk => q3.block k hk (fun e => by cases e)⟩
      have L1 := ld.trans l1
      have hs1 := L1.size
      refine anyT_one 7 rfl (by kernel_rfl) rfl ?_
      refine wp_app (.tmp 14) (.tmp 20) 67 rfl _ _ rfl rfl _ W1 q1 ⟨b1, ?_⟩
      simp only [Act.put, List.setIfInBounds_toArray, List.set_cons_zero, List.set_cons_succ]
      have hd1 := ownD_drop (j + 1) (by omega) (HT.out.later L1).2.2
      rw [if_neg hcap] at hd1
      obtain ⟨v2, W2, p1, p2, p3, p4⟩ := appD W1 67 base W1.heap.size v1 ([] ++ l.take j) _ (l.drop (j + 1)) q2 hd1 (by omega) (by simp; omega)
      have f1 : ∀ x, v1.ownBlock = some x → w.heap.size ≤ x := fun x hx => by
        rcases q4 with h | h
        · rw [h] at hx; cases hx
        · rw [h] at hx; cases hx; omega
      have f2 : ∀ x, v2.ownBlock = some x → w.heap.size ≤ x := fun x hx => by
        rcases p4 with h | h
        · rw [h] at hx; exact f1 x hx
        · rw [h] at hx; cases hx; omega
      have b2 : But (fun x => w.heap.size ≤ x) W1 W2 := ⟨p3.os, p3.tape, p3.output, p3.size, fun k hk he => p3.block k hk (fun e => he (f1 k e.symm))⟩
      rw [List.nil_append, ← erase_eqR] at p2
      obtain ⟨a2, c2, rfl, _, _⟩ := (ownD_rd p2).slice
      refine anyT_one 15 rfl (by kernel_rfl) rfl ?_
      refine wp_app (.tmp 21) (.tmp 28) 67 rfl _ _ rfl rfl _ W2 p1 ⟨b2, ?_⟩
      simp only [Act.put, List.setIfInBounds_toArray, List.set_cons_zero, List.set_cons_succ]
      refine anyT_one 16 rfl (by kernel_rfl) rfl ?_
      unfold Oper.wp
      go_simp
      refine ⟨But.refl _ _, ?_⟩
      refine anyT_done (by kernel_rfl) ?_
      have bz : But (fun x => w.heap.size ≤ x) w W2 := (But.of ld).trans (b1.trans b2)
      have hb0 := (bz.block bt HT.out.blt (fun e => by have := HT.out.blt; omega)).trans HT.out.2.1
      have kz := block_cell hb0
      have fz := block_frozen hb0
      have P2 := hide p2
      have F2 := hide f2
      clear p2 f2 q2 p1 q1 hd1 q4 p4 f1 hr0
      go_wp2_with fail
      go_ret
      refine ⟨by rw [HPE.out]; rfl, .inr ⟨j, HKX.out, ?_⟩⟩
      have bs : But (fun x => x = bt ∨ Value.ownBlock (.slice (some ⟨g, 0, none⟩) l.length cv) = some x) w (W2.setCell ⟨bt, 0, none⟩ (.slice a2 (l.eraseIdx j).length c2)) := by
        refine ⟨bz.os, bz.tape, bz.output, Nat.le_trans bz.size (by simp), fun k hk he => ?_⟩
        exact (Below.heap_setCell W2 ⟨bt, 0, none⟩ _ k (fun e => he (.inl e))).trans (bz.block k hk (fun e => by omega))
      refine ⟨.slice a2 (l.eraseIdx j).length c2, ⟨HT.out.1, heap_set1 hb0 0 _, ?_⟩, bs, .inr F2.out⟩
      obtain ⟨s1, s2 | ⟨g2, cap2, cur, e, s2, s3, s4⟩⟩ := P2.out
      · exact ⟨s1, .inl s2⟩
      · refine ⟨s1, .inr ⟨g2, cap2, cur, e, s2, hset_ne s3 (fun e2 => ?_), s4⟩⟩
        rw [e2, hb0] at s3
        simp at s3
end Go.Proofs.Ytahphjindjlcpaa
