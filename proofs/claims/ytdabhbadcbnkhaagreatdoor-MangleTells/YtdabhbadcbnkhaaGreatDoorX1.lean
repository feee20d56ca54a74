/- Several texts in one. -/
import Derived.Test.YtdabhbadcbnkhaaGreatDoorX2
import Derived.Test.YtdabhbadcbnkhaaGreatDoorX5
import Derived.Test.YtdabhbadcbnkhaaGreatDoorX3
import Derived.Test.YtdabhbadcbnkhaaGreatDoorRh
import Derived.Test.YtdabhbadcbnkhaaGreatDoorX4
import Derived.Test.YtdabhbadcbnkhaaGreatDoorX7
/- Package mangle: what a requoted error tells. -/
namespace Go.Proofs.YtdabhbadcbnkhaaGreatDoor
open Go.RowKit Go.Shelf
set_option maxRecDepth 100000
set_option linter.unusedVariables false
set_option linter.unusedSimpArgs false

theorem rnm_eq {zs : List Int} (s d : Int) (h : 20 ≤ zs.length) : rnm s d zs = Mt.put2 (Mt.put2 (put4 (put4 zs 12 s) 16 d) 10 0) 10 (Mt.cks (Mt.put2 (put4 (put4 zs 12 s) 16 d) 10 0)) := by
  unfold rnm
  rw [putAt4_lit zs 12 12 s rfl (by omega), putAt4_lit _ 16 16 d rfl (by rw [put4_length]; omega), putAt2_lit _ 10 10 0 rfl (by rw [put4_length, put4_length]; omega), putAt2_lit _ 10 10 _ rfl (by rw [Mt.put2_length, put4_length, put4_length]; omega)]
theorem rnm_other {zs : List Int} (s d : Int) (h : 20 ≤ zs.length) (j : Nat) (hj : j < 10 ∨ 20 ≤ j) : (rnm s d zs)[j]? = zs[j]? := by
  rw [rnm_eq s d h, Mt.put2_other _ _ _ _ (by omega) (by omega), Mt.put2_other _ _ _ _ (by omega) (by omega), put4_other _ _ _ _ (by omega), put4_other _ _ _ _ (by omega)]
theorem rnm_good {zs : List Int} {s d : Int} (hB : Mt.By zs) (hs : 0 ≤ s ∧ s ≤ 4294967295) (hd : 0 ≤ d ∧ d ≤ 4294967295) (h : 20 ≤ zs.length) : Mt.cks (rnm s d zs) = 0 := by
  rw [rnm_eq s d h]
  have hB2 : Mt.By (Mt.put2 (put4 (put4 zs 12 s) 16 d) 10 0) := (By_put4 (By_put4 hB 12 hs) 16 hd).put2 10 (by omega)
  have hl : (put4 (put4 zs 12 s) 16 d).length = zs.length := by rw [put4_length, put4_length]
  refine good_bare _ 10 hB2 rfl (by rw [Mt.put2_length]; omega) ?_ ?_
  · unfold Mt.put2
    rw [List.getElem?_set_ne (by omega), List.getElem?_set_self (by omega)]
    rfl
  · unfold Mt.put2
    rw [List.getElem?_set_self (by rw [List.length_set]; omega)]
    rfl
theorem rnm_12 {zs : List Int} {s d : Int} (hs : 0 ≤ s) (hd : 0 ≤ d) (h : 20 ≤ zs.length) : wat4 (rnm s d zs) 12 = s ∧ wat4 (rnm s d zs) 16 = d := by
  rw [rnm_eq s d h]
  have o : ∀ (z : List Int) (v : Int) (k : Nat), 12 ≤ k → wat4 (Mt.put2 z 10 v) k = wat4 z k := fun z v k hk => by
    unfold wat4
    rw [wat_put2_other _ _ _ _ (by omega), wat_put2_other _ _ _ _ (by omega)]
  rw [o _ _ 12 (by omega), o _ _ 12 (by omega), o _ _ 16 (by omega), o _ _ 16 (by omega)]
  refine ⟨?_, wat4_put4 _ _ _ (by rw [put4_length]; omega) hd⟩
  have e : wat4 (put4 (put4 zs 12 s) 16 d) 12 = wat4 (put4 zs 12 s) 12 := wat4_same (fun j h1 h2 => put4_other _ _ _ _ (by omega))
  rw [e]
  exact wat4_put4 _ _ _ (by omega) hs

theorem qie_qsD {pr : Int} {u : Un} {dq : List Int} (hq : qie pr dq = 0) (h8 : 8 ≤ dq.length) : qie pr (qsD pr u dq) = 0 := by
  by_cases h6 : pr = 6
  · subst h6; rfl
  by_cases h17 : pr = 17
  · subst h17; rfl
  by_cases h1 : pr = 1
  · subst h1
    have e : qsD 1 u dq = qsI u dq := rfl
    rw [e]
    have o : ∀ j, j < 2 → (qsI u dq)[j]? = dq[j]? := fun j hj => by
      unfold qsI
      rw [putAt2_lit _ 2 2 _ rfl (by rw [Mt.put2_length]; omega), Mt.put2_other _ _ _ _ (by omega) (by omega), Mt.put2_other _ _ _ _ (by omega) (by omega)]
    unfold qie at hq ⊢
    rw [if_neg h6, if_neg h17, if_pos rfl] at hq ⊢
    rw [o 0 (by omega), o 1 (by omega)]
    exact hq
  by_cases h47 : pr = 47
  · subst h47
    have e : qsD 47 u dq = rwG u.b dq := rfl
    rw [e]
    unfold qie at hq ⊢
    rw [if_neg h6, if_neg h17, if_neg h1, if_pos rfl] at hq ⊢
    have o : ∀ j, j ≠ 6 → j ≠ 7 → ((rwG u.b dq).take 8)[j]? = (dq.take 8)[j]? := fun j h1 h2 => by
      rw [List.getElem?_take, List.getElem?_take]
      split
      · exact Mt.put2_other _ _ _ _ h1 h2
      · rfl
    have eb : bgz ((rwG u.b dq).take 8) = bgz (dq.take 8) := by unfold bgz; rw [o 0 (by omega) (by omega), o 1 (by omega) (by omega), o 2 (by omega) (by omega), o 3 (by omega) (by omega)]
    have el : ((rwG u.b dq).take 8).length = (dq.take 8).length := by rw [List.length_take, List.length_take, show (rwG u.b dq).length = dq.length from Mt.put2_length _ _ _]
    have ep : pge 47 ((rwG u.b dq).take 8) = pge 47 (dq.take 8) := by
      unfold pge
      rw [el, eb, wat_same (o 4 (by omega) (by omega)) (o 5 (by omega) (by omega))]
    rw [ep]
    exact hq
  · unfold qie at hq
    rw [if_neg h6, if_neg h17, if_neg h1, if_neg h47] at hq
    exact absurd hq (by decide)

theorem qia_qsD {pr : Int} {u : Un} {dq : List Int} (hok : pok pr) (h8 : 8 ≤ dq.length) (hu : UOk u) : qia pr (qsD pr u dq) = tla pr u.a ∧ qib pr (qsD pr u dq) = tlb pr u.a u.b := by
  obtain ⟨_, _, ha, hb⟩ := hu
  have hpl := prt_length u.a u.b dq
  have p0 := prt_w0 u.a u.b dq (by omega) ha.1
  have p2 := prt_w2 u.a u.b dq (by omega) hb.1
  have wp : ∀ (z : List Int) (p : Int) (v : Int) (j : Nat), (p = 6 ∨ p = 16) → j ≤ 2 → wat (putAt2 z p v) j = wat z j := fun z p v j hp hj => by
    unfold putAt2
    split
    · exact wat_put2_other _ _ _ _ (by omega)
    · rfl
  rcases hok with rfl | rfl | rfl | rfl
  · refine ⟨?_, ?_⟩
    · show wat (qsT u dq) 0 = u.a
      unfold qsT
      rw [wp _ _ _ _ (.inr rfl) (by omega)]
      exact p0
    · show wat (qsT u dq) 2 = u.b
      unfold qsT
      rw [wp _ _ _ _ (.inr rfl) (by omega)]
      exact p2
  · refine ⟨?_, ?_⟩
    · show wat (qsU u dq) 0 = u.a
      unfold qsU
      split
      · exact p0
      · rw [wp _ _ _ _ (.inl rfl) (by omega)]
        exact p0
    · show wat (qsU u dq) 2 = u.b
      unfold qsU
      split
      · exact p2
      · rw [wp _ _ _ _ (.inl rfl) (by omega)]
        exact p2
  · have e : wat (qsI u dq) 4 = u.a := by
      unfold qsI
      rw [putAt2_lit _ 2 2 _ rfl (by rw [Mt.put2_length]; omega), wat_put2_other _ _ _ _ (by omega)]
      exact wat_put2 _ _ _ (by omega) ha.1
    exact ⟨e, e⟩
  · refine ⟨rfl, ?_⟩
    show wat (rwG u.b dq) 6 = u.b
    unfold rwG
    exact wat_put2 _ _ _ (by omega) hb.1

/-- What is requoted is quoted well, and tells the tuple. -/
theorem rqt_tells {mz : List Int} {s d a b : Int} (hB : Mt.By mz) (hrd : rde true mz = 0) (hq : qie (qpr mz) (qdt mz) = 0) (hs : 0 ≤ s ∧ s ≤ 4294967295) (hd : 0 ≤ d ∧ d ≤ 4294967295) (ha : 0 ≤ a ∧ a ≤ 65535) (hb : 0 ≤ b ∧ b ≤ 65535) :
    rde true (rqt (qun mz s d a b) mz) = 0 ∧ qpr (rqt (qun mz s d a b) mz) = qpr mz ∧ wat4 (rqt (qun mz s d a b) mz) 12 = s ∧ wat4 (rqt (qun mz s d a b) mz) 16 = d ∧ qdt (rqt (qun mz s d a b) mz) = qsD (qpr mz) (qun mz s d a b) (qdt mz) := by
  obtain ⟨h20, hhe, hel⟩ := rde_facts hB hrd
  have hlen := rqt_length (u := qun mz s d a b) hB hrd
  have hE : rqt (qun mz s d a b) mz = rnm s d (mz.take (hl4 mz).toNat) ++ (qsD (qpr mz) (qun mz s d a b) (qdt mz) ++ mz.drop (ral true mz).toNat) := rfl
  have hT : (mz.take (hl4 mz).toNat).length = (hl4 mz).toNat := by rw [List.length_take]; omega
  have hH : (rnm s d (mz.take (hl4 mz).toNat)).length = (hl4 mz).toNat := by rw [rnm_length, hT]
  have hQ : (qsD (qpr mz) (qun mz s d a b) (qdt mz)).length = (ral true mz).toNat - (hl4 mz).toNat := by rw [qsD_length]; unfold qdt; rw [List.length_drop, List.length_take]; omega
  have hg := rnm_good (hB.take (hl4 mz).toNat) hs hd (by rw [hT]; exact h20)
  have h12 := rnm_12 (zs := mz.take (hl4 mz).toNat) hs.1 hd.1 (by rw [hT]; exact h20)
  have hat : ∀ j, j < (hl4 mz).toNat → (rqt (qun mz s d a b) mz)[j]? = (rnm s d (mz.take (hl4 mz).toNat))[j]? := fun j hj => by rw [hE, List.getElem?_append_left (by omega)]
  have hsm : ∀ j, j < 10 → (rqt (qun mz s d a b) mz)[j]? = mz[j]? := fun j hj => by
    rw [hat j (by omega), rnm_other s d (by rw [hT]; exact h20) j (.inl hj), List.getElem?_take_of_lt (by omega)]
  have e0 := hsm 0 (by omega)
  have eh : hl4 (rqt (qun mz s d a b) mz) = hl4 mz := by unfold hl4; rw [e0]
  have e2 : wat (rqt (qun mz s d a b) mz) 2 = wat mz 2 := wat_same (hsm 2 (by omega)) (hsm 3 (by omega))
  have e6 : wat (rqt (qun mz s d a b) mz) 6 = wat mz 6 := wat_same (hsm 6 (by omega)) (hsm 7 (by omega))
  have er : ral true (rqt (qun mz s d a b) mz) = ral true mz := by unfold ral; rw [e2, hlen]
  have et : (rqt (qun mz s d a b) mz).take (hl4 mz).toNat = rnm s d (mz.take (hl4 mz).toNat) := by rw [hE, List.take_append_of_le_length (by omega), List.take_of_length_le (by omega)]
  refine ⟨?_, ?_, ?_, ?_, ?_⟩
  · have em : msr (rqt (qun mz s d a b) mz) = msr mz := by unfold msr; rw [hlen, e0, eh, e2]
    unfold rde at hrd ⊢
    rw [em, hlen, er, eh]
    by_cases h1 : msr mz ≠ 0
    · rw [if_pos h1] at hrd; exact absurd hrd h1
    rw [if_neg h1] at hrd ⊢
    by_cases h2 : (mz.length : Int) < ral true mz
    · rw [if_pos h2] at hrd; exact absurd hrd (by decide)
    rw [if_neg h2] at hrd ⊢
    by_cases h3 : chk mz ≠ 0
    · rw [if_pos h3] at hrd; exact absurd hrd h3
    rw [if_neg h3] at hrd
    have hc : chk (rqt (qun mz s d a b) mz) = 0 := by
      simp only [ne_eq, Decidable.not_not] at h3
      unfold chk at h3 ⊢
      rw [eh, et, hg, e6, if_neg (by simp)]
      split at h3
      · exact absurd h3 (by decide)
      · exact h3
    rw [if_neg (by rw [hc]; simp)]
    exact hrd
  · unfold qpr; rw [hsm 9 (by omega)]
  · unfold wat4 wat
    rw [hat 12 (by omega), hat 13 (by omega), hat (12 + 2) (by omega), hat (12 + 2 + 1) (by omega)]
    exact h12.1
  · unfold wat4 wat
    rw [hat 16 (by omega), hat 17 (by omega), hat (16 + 2) (by omega), hat (16 + 2 + 1) (by omega)]
    exact h12.2
  · have : qdt (rqt (qun mz s d a b) mz) = ((rqt (qun mz s d a b) mz).take (ral true mz).toNat).drop (hl4 mz).toNat := by unfold qdt; rw [er, eh]
    rw [this, hE, List.take_append, List.take_of_length_le (by omega), List.drop_append, List.drop_of_length_le (by omega), hH, Nat.sub_self, List.drop_zero, List.nil_append, List.take_append_of_le_length (by omega), List.take_of_length_le (by omega)]
end Go.Proofs.YtdabhbadcbnkhaaGreatDoor

/- What Parse answers of what was built: messages and frames. -/
namespace Go.Proofs.YtdabhbadcbnkhaaGreatDoor
open Go.RowKit Go.Shelf
set_option maxRecDepth 100000
set_option linter.unusedVariables false
set_option linter.unusedSimpArgs false

/-- A message's check sum is good. -/
theorem icm_good (ty cde rest : Int) (zd : List Int) (h1 : 0 ≤ ty ∧ ty ≤ 255) (h2 : 0 ≤ cde ∧ cde ≤ 255) (h3 : 0 ≤ rest ∧ rest ≤ 4294967295) (hB : Mt.By zd) : Mt.cks (icm ty cde rest zd) = 0 := by
  have hn := Mt.tw_nonneg true _ (By_icm0 ty cde rest zd h1 h2 h3 hB)
  have ht := Mt.tw_put2 (icm0 ty cde rest zd) 2 (Mt.cks (icm0 ty cde rest zd)) (by omega) (by rw [icm0_length]; omega)
  have hz : (icm0 ty cde rest zd)[2]?.getD 0 = 0 ∧ (icm0 ty cde rest zd)[2 + 1]?.getD 0 = 0 := ⟨rfl, rfl⟩
  rw [hz.1, hz.2] at ht
  unfold icm
  have hg := Mt.fd_good _ hn
  unfold Mt.cks at ht ⊢
  rw [ht, show Mt.tw true (icm0 ty cde rest zd) + (65535 - Mt.fd (Mt.tw true (icm0 ty cde rest zd))) - (0 * 256 + 0) = Mt.tw true (icm0 ty cde rest zd) + (65535 - Mt.fd (Mt.tw true (icm0 ty cde rest zd))) from by omega, hg]
  rfl
theorem icm_drop (ty cde rest : Int) (zd : List Int) : (icm ty cde rest zd).drop 8 = zd := by simp [icm, Mt.put2, icm0]
theorem icm_0 (ty cde rest : Int) (zd : List Int) : (icm ty cde rest zd)[0]?.getD 0 = ty := by simp [icm, Mt.put2, icm0]
theorem icm_1 (ty cde rest : Int) (zd : List Int) : (icm ty cde rest zd)[1]?.getD 0 = cde := by simp [icm, Mt.put2, icm0]
theorem icm_4 (ty cde rest : Int) (zd : List Int) : wat4 (icm ty cde rest zd) 4 = rest := by simp [icm, Mt.put2, icm0, wat4, wat]; omega
theorem icm_pie (ty cde rest : Int) (zd : List Int) (h1 : 0 ≤ ty ∧ ty ≤ 255) (h2 : 0 ≤ cde ∧ cde ≤ 255) (h3 : 0 ≤ rest ∧ rest ≤ 4294967295) (hB : Mt.By zd) : pie 1 (icm ty cde rest zd) = 0 := by
  unfold pie
  rw [if_neg (by simp), icm_length, if_neg (by omega), icm_good ty cde rest zd h1 h2 h3 hB]
  simp
end Go.Proofs.YtdabhbadcbnkhaaGreatDoor

/- The document's read of bytes. -/
namespace Go.Proofs.YtdabhbadcbnkhaaGreatDoor
open Go.RowKit Go.Shelf
set_option maxRecDepth 100000
set_option linter.unusedVariables false
set_option linter.unusedSimpArgs false

theorem rget16_rd {n₀ : Nat} (sv : Value) (zs : List Int) (hB : Mt.By zs) (p : Nat) (h : p + 1 < zs.length) (hl : zs.length ≤ 140737488355328) (w : World) (hI : Rd n₀ w sv zs) :
    Calls Tryz.prog 65 #[sv, .int .i64 p] w fun e w' => e = .returned (.int .u16 (wat zs p)) ∧ Later w w' := by
  refine (rget16_at sv zs hB p (by omega) hl w hI).mono ?_
  rintro e w' ⟨rfl, q, rfl⟩
  refine ⟨?_, below_draw (Later.refl w) q⟩
  unfold getAt2
  rw [if_pos (by omega), Int.toNat_natCast]
theorem rget32_rd {n₀ : Nat} (sv : Value) (zs : List Int) (hB : Mt.By zs) (p : Nat) (h : p + 3 < zs.length) (hl : zs.length ≤ 140737488355328) (w : World) (hI : Rd n₀ w sv zs) :
    Calls Tryz.prog 32 #[sv, .int .i64 p] w fun e w' => e = .returned (.int .u32 (wat4 zs p)) ∧ Later w w' := by
  refine (rget32_at sv zs hB p (by omega) hl w hI).mono ?_
  rintro e w' ⟨rfl, q, rfl⟩
  refine ⟨?_, below_draw (Later.refl w) q⟩
  unfold getAt4
  rw [if_pos (by omega), Int.toNat_natCast]

theorem res_rread (tm : Array Value) (pb : Nat) (c : Int) (v0 v1 v2 v3 v4 v5 v6 v7 v8 : Value) (w : World) (h4 : tm[4]? = some (.pointer (some ⟨pb, 0, none⟩))) (h5 : tm[5]? = some (.int .i64 c))
    (hp : w.heap[pb]? = some (.cells #[v0, v1, v2, v3, v4, v5, v6, v7, v8] 26 (0, 0))) :
    (results Tryz.f40 tm).run Tryz.prog w = .ok (.tuple #[.agg #[v0, v1, v2, v3, v4, v5, v6, v7, v8], .int .i64 c]) w := by
  have kP := block_cell hp
  simp [results, Tryz.results40, go_sem, h4, h5, kP]

theorem rexit {R : Ending → World → Prop} (tm : Array Value) (pb : Nat) (c : Int) (V : World) (h4 : tm[4]? = some (.pointer (some ⟨pb, 0, none⟩))) (h5 : tm[5]? = some (.int .i64 c)) (hV : V.heap[pb]? = some (.cells zc.toArray 26 (0, 0)))
    (hR : R (.returned (.tuple #[.agg zc.toArray, .int .i64 c])) V) : bodyPost Tryz.prog Tryz.f40 R .ret { tmps := tm, defers := [] } V :=
  bodyPost_ret (res_rread tm pb c _ _ _ _ _ _ _ _ _ V h4 h5 hV) rfl hR

set_option maxHeartbeats 8000000 in
theorem rread_any (q : Bool) (sv : Value) (zs : List Int) (w : World) (hB : Mt.By zs) (hl : zs.length ≤ 140737488355328) (hI : Rd w.heap.size w sv zs) :
    Calls Tryz.prog 40 #[sv, .bool q] w fun e w' => Below w.heap.size w w' ∧
      ((rde q zs ≠ 0 ∧ e = .returned (.tuple #[.agg zc.toArray, .int .i64 (rde q zs)])) ∨
       (rde q zs = 0 ∧ ∃ so sd, e = .returned (.tuple #[pkt zs so sd, .int .i64 0]) ∧ Ow w.heap.size w' so ((zs.take (hl4 zs).toNat).drop 20) ∧ Ow w.heap.size w' sd ((zs.take (ral q zs).toNat).drop (hl4 zs).toNat))) := by
  obtain ⟨i0, hi, hz0, hz1, hz2⟩ := info_parts info_u8
  obtain ⟨a, cap, rfl, hl1, hm1⟩ := hI.slice
  have hb1 : Below w.heap.size w (w.alloc (.cells zc.toArray 26)) := (Below.refl _ _).alloc (Nat.le_refl _) _
  have p1 := heap_alloc_new w (.cells zc.toArray 26)
  have s1 : (w.alloc (.cells zc.toArray 26)).heap.size = w.heap.size + 1 := by simp
  have HM : Hid (rde q zs = if msr zs ≠ 0 then msr zs else if (zs.length : Int) < ral q zs then 3 else if chk zs ≠ 0 then chk zs else if q = true ∧ ral q zs - hl4 zs < 8 then 3 else 0) := rfl
  go_enter Tryz.func40, Tryz.ntmps40
  by_cases h1 : zs.length < 20
  · have t1 : (zs.length : Int) < 20 := by omega
    have HR : Hid (rde q zs = 3) := by show _ = _; unfold rde; rw [show msr zs = 3 from by unfold msr; rw [if_pos h1]]; rfl
    have P2 := block_cell p1
    have F2 := block_frozen p1
    go_wp2_with fail
    exact rexit _ w.heap.size 3 _ rfl rfl p1 ⟨hb1, .inl (by rw [HR.out]; exact ⟨by omega, rfl⟩)⟩

  have t1 : ¬ (zs.length : Int) < 20 := by omega
  obtain ⟨b, off, cap', e', _, _, hb, hc⟩ := hI.cells (by omega)
  cases e'
  have d0 : (w.alloc (.cells zc.toArray 26)).cell? ⟨b, off, none⟩ = some (.int .u8 (zs[0]?.getD 0)) := (hb1.cell (p := ⟨b, off, none⟩) hb).trans (by have := hc 0 (by omega); rwa [Nat.add_zero] at this)
  have b0 := hB.at 0
  have hlz : (0 : Int) < zs.length := by omega
  by_cases h2 : zs[0]?.getD 0 / 16 ≠ 4
  · have t2 : (zs[0]?.getD 0 / 16 != 4) = true := by simpa using h2
    have HR : Hid (rde q zs = 6) := by show _ = _; unfold rde; rw [show msr zs = 6 from by unfold msr; rw [if_neg h1, if_pos h2]]; rfl
    have P2 := block_cell p1
    have F2 := block_frozen p1
    go_wp2_with fail
    exact rexit _ w.heap.size 6 _ rfl rfl p1 ⟨hb1, .inl (by rw [HR.out]; exact ⟨by omega, rfl⟩)⟩

  have t2 : (zs[0]?.getD 0 / 16 != 4) = false := by simpa using h2
  have HH : hl4 zs = zs[0]?.getD 0 % 16 * 4 := rfl
  have hh := hl4_bd hB
  by_cases h3 : hl4 zs < 20
  · have t3 : zs[0]?.getD 0 % 16 * 4 < 20 := by rw [← HH]; exact h3
    have HR : Hid (rde q zs = 4) := by show _ = _; unfold rde; rw [show msr zs = 4 from by unfold msr; rw [if_neg h1, if_neg h2, if_pos h3]]; rfl
    have P2 := block_cell p1
    have F2 := block_frozen p1
    go_wp2_with fail
    exact rexit _ w.heap.size 4 _ rfl rfl p1 ⟨hb1, .inl (by rw [HR.out]; exact ⟨by omega, rfl⟩)⟩

  have t3 : ¬ zs[0]?.getD 0 % 16 * 4 < 20 := by rw [← HH]; exact h3
  by_cases h4 : (zs.length : Int) < hl4 zs
  · have t4 : (zs.length : Int) < zs[0]?.getD 0 % 16 * 4 := by rw [← HH]; exact h4
    have HR : Hid (rde q zs = 3) := by show _ = _; unfold rde; rw [show msr zs = 3 from by unfold msr; rw [if_neg h1, if_neg h2, if_neg h3, if_pos h4]]; rfl
    have P2 := block_cell p1
    have F2 := block_frozen p1
    go_wp2_with fail
    exact rexit _ w.heap.size 3 _ rfl rfl p1 ⟨hb1, .inl (by rw [HR.out]; exact ⟨by omega, rfl⟩)⟩

  have t4 : ¬ (zs.length : Int) < zs[0]?.getD 0 % 16 * 4 := by rw [← HH]; exact h4
  go_wp2_with fail
  clear d0
  refine (rget16_rd _ zs hB 2 (by omega) hl _ ((hI.below hb1).mono (Nat.le_succ _))).mono ?_
  rintro e w2 ⟨rfl, hl2⟩
  obtain ⟨k, hk⟩ := Int.eq_ofNat_of_zero_le (show 0 ≤ zs[0]?.getD 0 % 16 * 4 by omega)
  have HK : Hid (hl4 zs = (k : Int)) := by show _ = _; rw [HH]; exact hk
  rw [hk] at t3 t4 ⊢
  have hkl : 20 ≤ k ∧ k ≤ zs.length := by omega
  have hkc : k ≤ cap := by omega
  have hn2 := wat_bd hB 2
  have z2 := hl2.size
  have HM2 : ∀ x, msr zs = x → Hid (msr zs = x) := fun _ h => h
  by_cases h5 : wat zs 2 < hl4 zs
  · have t5 : wat zs 2 < (k : Int) := by omega
    have HR : Hid (rde q zs = 4) := by show _ = _; unfold rde; rw [show msr zs = 4 from by unfold msr; rw [if_neg h1, if_neg h2, if_neg (by omega), if_neg (by omega), if_pos h5]]; rfl
    have pk := ((hl2).block w.heap.size (by omega)).trans p1
    have Pk := block_cell pk
    have Fk := block_frozen pk
    go_wp2_with fail
    clear Pk Fk
    generalize hV : ((((((((w2.setCell ⟨w.heap.size, 0, none⟩ _).setCell ⟨w.heap.size, 1, none⟩ _).setCell ⟨w.heap.size, 2, none⟩ _).setCell ⟨w.heap.size, 3, none⟩ _).setCell ⟨w.heap.size, 4, none⟩ _).setCell ⟨w.heap.size, 5, none⟩ _).setCell ⟨w.heap.size, 6, none⟩ _).setCell ⟨w.heap.size, 7, none⟩ _).setCell ⟨w.heap.size, 8, none⟩ _ = V
    have hV9 : V = putRow w2 w.heap.size 0 zc := hV.symm
    have hb8 : But (fun b => b = w.heap.size) w2 V := by rw [hV9]; exact putRow_but (E := fun b => b = w.heap.size) (n := w.heap.size) rfl _ _ _ _ (But.refl _ _)
    have p8 := putRow_all zc pk rfl
    rw [← hV9] at p8
    exact rexit _ w.heap.size 4 _ rfl rfl p8 ⟨(hb1.trans ((hl2).mono (by omega))).trans (hb8.below (Nat.le_trans (by omega) (hl2).size) (fun j h e => by omega)), .inl (by rw [HR.out]; exact ⟨by omega, rfl⟩)⟩

  have t5 : ¬ wat zs 2 < (k : Int) := by omega
  have hm0 : Hid (msr zs = 0) := by show _ = _; unfold msr; rw [if_neg h1, if_neg h2, if_neg (by omega), if_neg (by omega), if_neg (by omega)]
  cases q
  · by_cases h6 : (zs.length : Int) < wat zs 2
    · have HR : Hid (rde false zs = 3) := by show _ = _; unfold rde; rw [hm0.out, if_neg (by simp), if_pos (by simpa [ral] using h6)]
      have pk := ((hl2).block w.heap.size (by omega)).trans p1
      have Pk := block_cell pk
      have Fk := block_frozen pk
      go_wp2_with fail
      clear Pk Fk
      generalize hV : ((((((((w2.setCell ⟨w.heap.size, 0, none⟩ _).setCell ⟨w.heap.size, 1, none⟩ _).setCell ⟨w.heap.size, 2, none⟩ _).setCell ⟨w.heap.size, 3, none⟩ _).setCell ⟨w.heap.size, 4, none⟩ _).setCell ⟨w.heap.size, 5, none⟩ _).setCell ⟨w.heap.size, 6, none⟩ _).setCell ⟨w.heap.size, 7, none⟩ _).setCell ⟨w.heap.size, 8, none⟩ _ = V
      have hV9 : V = putRow w2 w.heap.size 0 zc := hV.symm
      have hb8 : But (fun b => b = w.heap.size) w2 V := by rw [hV9]; exact putRow_but (E := fun b => b = w.heap.size) (n := w.heap.size) rfl _ _ _ _ (But.refl _ _)
      have p8 := putRow_all zc pk rfl
      rw [← hV9] at p8
      exact rexit _ w.heap.size 3 _ rfl rfl p8 ⟨(hb1.trans ((hl2).mono (by omega))).trans (hb8.below (Nat.le_trans (by omega) (hl2).size) (fun j h e => by omega)), .inl (by rw [HR.out]; exact ⟨by omega, rfl⟩)⟩

    go_wp2_with fail
    refine (rgood_any _ (zs.take k) (hB.take _) (by simp; omega) w2 (((hI.take k (by omega)).below (hb1.trans (hl2.mono (by omega)))).mono (by omega))).mono ?_
    rintro e w3 ⟨rfl, hl3⟩
    have hL3 : Later _ w3 := hl2.trans hl3
    have z3 := hL3.size
    cases hg : (Mt.cks (zs.take k) == 0)
    · have hc5 : chk zs = 5 := by unfold chk; rw [HK.out, Int.toNat_natCast, if_pos (by simpa using hg)]
      have HR : Hid (rde false zs = 5) := by show _ = _; unfold rde; rw [hm0.out, if_neg (by simp), if_neg (by simp [ral]; omega), hc5]; rfl
      clear hc5
      have pk := ((hL3).block w.heap.size (by omega)).trans p1
      have Pk := block_cell pk
      have Fk := block_frozen pk
      go_wp2_with fail
      clear Pk Fk
      generalize hV : ((((((((w3.setCell ⟨w.heap.size, 0, none⟩ _).setCell ⟨w.heap.size, 1, none⟩ _).setCell ⟨w.heap.size, 2, none⟩ _).setCell ⟨w.heap.size, 3, none⟩ _).setCell ⟨w.heap.size, 4, none⟩ _).setCell ⟨w.heap.size, 5, none⟩ _).setCell ⟨w.heap.size, 6, none⟩ _).setCell ⟨w.heap.size, 7, none⟩ _).setCell ⟨w.heap.size, 8, none⟩ _ = V
      have hV9 : V = putRow w3 w.heap.size 0 zc := hV.symm
      have hb8 : But (fun b => b = w.heap.size) w3 V := by rw [hV9]; exact putRow_but (E := fun b => b = w.heap.size) (n := w.heap.size) rfl _ _ _ _ (But.refl _ _)
      have p8 := putRow_all zc pk rfl
      rw [← hV9] at p8
      exact rexit _ w.heap.size 5 _ rfl rfl p8 ⟨(hb1.trans ((hL3).mono (by omega))).trans (hb8.below (Nat.le_trans (by omega) (hL3).size) (fun j h e => by omega)), .inl (by rw [HR.out]; exact ⟨by omega, rfl⟩)⟩

    have hg0 : Mt.cks (zs.take k) = 0 := by simpa using hg
    have Hg := hide hg0
    clear hg hg0
    go_wp2_with fail
    refine (rget16_rd _ zs hB 6 (by omega) hl w3 (hI.below (hb1.trans (hL3.mono (by omega))))).mono ?_
    rintro e w4 ⟨rfl, hl4'⟩
    have hL4 : Later _ w4 := hL3.trans hl4'
    have z4 := hL4.size
    have hff := wat_bd hB 6
    by_cases h7 : wat zs 6 % 16384 ≠ 0
    · have t7 : (wat zs 6 % 16384 != 0) = true := by simpa using h7
      have hc5 : chk zs = 7 := by unfold chk; rw [HK.out, Int.toNat_natCast, if_neg (by simp [Hg.out]), if_pos h7]
      have HR : Hid (rde false zs = 7) := by show _ = _; unfold rde; rw [hm0.out, if_neg (by simp), if_neg (by simp [ral]; omega), hc5]; rfl
      clear hc5
      have pk := ((hL4).block w.heap.size (by omega)).trans p1
      have Pk := block_cell pk
      have Fk := block_frozen pk
      go_wp2_with fail
      clear Pk Fk
      generalize hV : ((((((((w4.setCell ⟨w.heap.size, 0, none⟩ _).setCell ⟨w.heap.size, 1, none⟩ _).setCell ⟨w.heap.size, 2, none⟩ _).setCell ⟨w.heap.size, 3, none⟩ _).setCell ⟨w.heap.size, 4, none⟩ _).setCell ⟨w.heap.size, 5, none⟩ _).setCell ⟨w.heap.size, 6, none⟩ _).setCell ⟨w.heap.size, 7, none⟩ _).setCell ⟨w.heap.size, 8, none⟩ _ = V
      have hV9 : V = putRow w4 w.heap.size 0 zc := hV.symm
      have hb8 : But (fun b => b = w.heap.size) w4 V := by rw [hV9]; exact putRow_but (E := fun b => b = w.heap.size) (n := w.heap.size) rfl _ _ _ _ (But.refl _ _)
      have p8 := putRow_all zc pk rfl
      rw [← hV9] at p8
      exact rexit _ w.heap.size 7 _ rfl rfl p8 ⟨(hb1.trans ((hL4).mono (by omega))).trans (hb8.below (Nat.le_trans (by omega) (hL4).size) (fun j h e => by omega)), .inl (by rw [HR.out]; exact ⟨by omega, rfl⟩)⟩

    have t7 : (wat zs 6 % 16384 != 0) = false := by simpa using h7
    by_cases h8 : 32768 ≤ wat zs 6
    · have hc5 : chk zs = 4 := by unfold chk; rw [HK.out, Int.toNat_natCast, if_neg (by simp [Hg.out]), if_neg h7, if_pos h8]
      have HR : Hid (rde false zs = 4) := by show _ = _; unfold rde; rw [hm0.out, if_neg (by simp), if_neg (by simp [ral]; omega), hc5]; rfl
      clear hc5
      have pk := ((hL4).block w.heap.size (by omega)).trans p1
      have Pk := block_cell pk
      have Fk := block_frozen pk
      go_wp2_with fail
      clear Pk Fk
      generalize hV : ((((((((w4.setCell ⟨w.heap.size, 0, none⟩ _).setCell ⟨w.heap.size, 1, none⟩ _).setCell ⟨w.heap.size, 2, none⟩ _).setCell ⟨w.heap.size, 3, none⟩ _).setCell ⟨w.heap.size, 4, none⟩ _).setCell ⟨w.heap.size, 5, none⟩ _).setCell ⟨w.heap.size, 6, none⟩ _).setCell ⟨w.heap.size, 7, none⟩ _).setCell ⟨w.heap.size, 8, none⟩ _ = V
      have hV9 : V = putRow w4 w.heap.size 0 zc := hV.symm
      have hb8 : But (fun b => b = w.heap.size) w4 V := by rw [hV9]; exact putRow_but (E := fun b => b = w.heap.size) (n := w.heap.size) rfl _ _ _ _ (But.refl _ _)
      have p8 := putRow_all zc pk rfl
      rw [← hV9] at p8
      exact rexit _ w.heap.size 4 _ rfl rfl p8 ⟨(hb1.trans ((hL4).mono (by omega))).trans (hb8.below (Nat.le_trans (by omega) (hL4).size) (fun j h e => by omega)), .inl (by rw [HR.out]; exact ⟨by omega, rfl⟩)⟩

    have hc0 : Hid (chk zs = 0) := by show _ = _; unfold chk; rw [HK.out, Int.toNat_natCast, if_neg (by simp [Hg.out]), if_neg h7, if_neg h8]

    have HR : Hid (rde false zs = 0) := by show _ = _; unfold rde; rw [hm0.out, if_neg (by simp), if_neg (by simp [ral]; omega), hc0.out, if_neg (by simp), if_neg (by simp)]

    go_wp2_with fail
    obtain ⟨n, hn⟩ := Int.eq_ofNat_of_zero_le (show 0 ≤ wat zs 2 by omega)
    have hkn : 20 ≤ k ∧ k ≤ n ∧ n ≤ zs.length := by omega
    have HN : Hid (ral false zs = n) := by show _ = _; simp [ral]; omega
    have Hn := hide hn
    rw [hn]
    clear hn

    have d1 := hc 1 (by omega)
    have d8 := hc 8 (by omega)
    have d9 := hc 9 (by omega)
    have hbw4 := hb1.trans (hL4.mono (by omega))
    generalize gz1 : zs[1]?.getD 0 = z1 at *
    generalize gz8 : zs[8]?.getD 0 = z8 at *
    generalize gz9 : zs[9]?.getD 0 = z9 at *
    have G1 := hide gz1
    have G8 := hide gz8
    have G9 := hide gz9
    clear gz1 gz8 gz9
    have i1 : (1 : Int) < zs.length := by omega
    have i8 : (8 : Int) < zs.length := by omega
    have i9 : (9 : Int) < zs.length := by omega
    refine anyR_begin (R := KI w4.heap.size 26 9 (List.toArray [.int .u8 z1, .int .u16 (wat zs 4), .bool (decide (16384 ≤ wat zs 6)), .int .u8 z8, .int .u8 z9, .int .u32 (wat4 zs 12), .int .u32 (wat4 zs 16), .slice none 0 0, .slice none 0 0])) (KI.pre _ _ _ _) (fun w => KI.of (Later.drew w)) 20 rfl (by kernel_rfl) (fun W5 hW5 => ?_)
    have hbel : ∀ w1, KI w4.heap.size 26 9 (List.toArray [.int .u8 z1, .int .u16 (wat zs 4), .bool (decide (16384 ≤ wat zs 6)), .int .u8 z8, .int .u8 z9, .int .u32 (wat4 zs 12), .int .u32 (wat4 zs 16), .slice none 0 0, .slice none 0 0]) W5 w1 → Below w.heap.size w w1 := fun w1 h => hbw4.trans (((hW5.trans h).1.below (Nat.le_refl _) (fun k hk e => by omega)).mono (by omega))
    have hr1 : ∀ w1, KI w4.heap.size 26 9 (List.toArray [.int .u8 z1, .int .u16 (wat zs 4), .bool (decide (16384 ≤ wat zs 6)), .int .u8 z8, .int .u8 z9, .int .u32 (wat4 zs 12), .int .u32 (wat4 zs 16), .slice none 0 0, .slice none 0 0]) W5 w1 → Rd w.heap.size w1 (.slice (some ⟨b, off, none⟩) zs.length cap) zs := fun w1 h => hI.below (hbel w1 h)
    have e1 : ∀ w1, KI w4.heap.size 26 9 (List.toArray [.int .u8 z1, .int .u16 (wat zs 4), .bool (decide (16384 ≤ wat zs 6)), .int .u8 z8, .int .u8 z9, .int .u32 (wat4 zs 12), .int .u32 (wat4 zs 16), .slice none 0 0, .slice none 0 0]) W5 w1 → w1.cell? ⟨b, off + 1, none⟩ = some (.int .u8 z1) := fun w1 h => ((hbel w1 h).cell (p := ⟨b, off + 1, none⟩) hb).trans d1
    have e8 : ∀ w1, KI w4.heap.size 26 9 (List.toArray [.int .u8 z1, .int .u16 (wat zs 4), .bool (decide (16384 ≤ wat zs 6)), .int .u8 z8, .int .u8 z9, .int .u32 (wat4 zs 12), .int .u32 (wat4 zs 16), .slice none 0 0, .slice none 0 0]) W5 w1 → w1.cell? ⟨b, off + 8, none⟩ = some (.int .u8 z8) := fun w1 h => ((hbel w1 h).cell (p := ⟨b, off + 8, none⟩) hb).trans d8
    have e9 : ∀ w1, KI w4.heap.size 26 9 (List.toArray [.int .u8 z1, .int .u16 (wat zs 4), .bool (decide (16384 ≤ wat zs 6)), .int .u8 z8, .int .u8 z9, .int .u32 (wat4 zs 12), .int .u32 (wat4 zs 16), .slice none 0 0, .slice none 0 0]) W5 w1 → w1.cell? ⟨b, off + 9, none⟩ = some (.int .u8 z9) := fun w1 h => ((hbel w1 h).cell (p := ⟨b, off + 9, none⟩) hb).trans d9
    clear d1 d8 d9
    refine anyR_val (KI.pre _ _ _ _) 0 rfl (by kernel_rfl) (by kernel_rfl) (by kernel_rfl) (fun _ _ _ _ h => h) rfl ?_; apply Exists.intro; refine ⟨fun w1 hw1 => ?_, ?_⟩; (· (go_simp; rfl)); simp only [Act.put, List.setIfInBounds_toArray, List.set_cons_zero, List.set_cons_succ]
    refine anyR_val (KI.pre _ _ _ _) 1 rfl (by kernel_rfl) (by kernel_rfl) (by kernel_rfl) (fun _ _ _ _ h => h) rfl ?_; apply Exists.intro; refine ⟨fun w1 hw1 => ?_, ?_⟩; (· (go_simp; rfl)); simp only [Act.put, List.setIfInBounds_toArray, List.set_cons_zero, List.set_cons_succ]
    refine anyR_val (KI.pre _ _ _ _) 2 rfl (by kernel_rfl) (by kernel_rfl) (by kernel_rfl) (fun _ _ _ _ h => h) rfl ?_; apply Exists.intro; refine ⟨fun w1 hw1 => ?_, ?_⟩; (· (go_simp; rfl)); simp only [Act.put, List.setIfInBounds_toArray, List.set_cons_zero, List.set_cons_succ]
    refine anyR_val (KI.pre _ _ _ _) 3 rfl (by kernel_rfl) (by kernel_rfl) (by kernel_rfl) (fun _ _ _ _ h => h) rfl ?_; apply Exists.intro; refine ⟨fun w1 hw1 => ?_, ?_⟩; (· (go_simp; rfl)); simp only [Act.put, List.setIfInBounds_toArray, List.set_cons_zero, List.set_cons_succ]
    refine anyR_take (KI.pre _ _ _ _) 4 (.int .u16 (wat zs 4)) rfl (by kernel_rfl) (by kernel_rfl) (by kernel_rfl) (fun _ _ _ h => h) rfl (fun w1 hw1 => goes_call 65 #[.slice (some ⟨b, off, none⟩) zs.length cap, .int .i64 4] (by go_simp) ?_) ?_
    · exact (rget16_rd _ zs hB 4 (by omega) hl w1 (hr1 w1 hw1)).mono fun e w' ⟨he, hw⟩ => ⟨he, KI.of hw⟩
    simp only [Act.put, List.setIfInBounds_toArray, List.set_cons_zero, List.set_cons_succ]
    refine anyR_val (KI.pre _ _ _ _) 5 rfl (by kernel_rfl) (by kernel_rfl) (by kernel_rfl) (fun _ _ _ _ h => h) rfl ?_; apply Exists.intro; refine ⟨fun w1 hw1 => ?_, ?_⟩; (· (go_simp; rfl)); simp only [Act.put, List.setIfInBounds_toArray, List.set_cons_zero, List.set_cons_succ]
    refine anyR_val (KI.pre _ _ _ _) 6 rfl (by kernel_rfl) (by kernel_rfl) (by kernel_rfl) (fun _ _ _ _ h => h) rfl ?_; apply Exists.intro; refine ⟨fun w1 hw1 => ?_, ?_⟩; (· (go_simp; rfl)); simp only [Act.put, List.setIfInBounds_toArray, List.set_cons_zero, List.set_cons_succ]
    refine anyR_val (KI.pre _ _ _ _) 7 rfl (by kernel_rfl) (by kernel_rfl) (by kernel_rfl) (fun _ _ _ _ h => h) rfl ?_; apply Exists.intro; refine ⟨fun w1 hw1 => ?_, ?_⟩; (· (go_simp; rfl)); simp only [Act.put, List.setIfInBounds_toArray, List.set_cons_zero, List.set_cons_succ]
    refine anyR_val (KI.pre _ _ _ _) 8 rfl (by kernel_rfl) (by kernel_rfl) (by kernel_rfl) (fun _ _ _ _ h => h) rfl ?_; apply Exists.intro; refine ⟨fun w1 hw1 => ?_, ?_⟩; (· (go_simp; rfl)); simp only [Act.put, List.setIfInBounds_toArray, List.set_cons_zero, List.set_cons_succ]
    refine anyR_val (KI.pre _ _ _ _) 9 rfl (by kernel_rfl) (by kernel_rfl) (by kernel_rfl) (fun _ _ _ _ h => h) rfl ?_; apply Exists.intro; refine ⟨fun w1 hw1 => ?_, ?_⟩; (· (go_simp; rfl)); simp only [Act.put, List.setIfInBounds_toArray, List.set_cons_zero, List.set_cons_succ]
    refine anyR_val (KI.pre _ _ _ _) 10 rfl (by kernel_rfl) (by kernel_rfl) (by kernel_rfl) (fun _ _ _ _ h => h) rfl ?_; apply Exists.intro; refine ⟨fun w1 hw1 => ?_, ?_⟩; (· (go_simp; rfl)); simp only [Act.put, List.setIfInBounds_toArray, List.set_cons_zero, List.set_cons_succ]
    refine anyR_val (KI.pre _ _ _ _) 11 rfl (by kernel_rfl) (by kernel_rfl) (by kernel_rfl) (fun _ _ _ _ h => h) rfl ?_; apply Exists.intro; refine ⟨fun w1 hw1 => ?_, ?_⟩; (· (go_simp; rfl)); simp only [Act.put, List.setIfInBounds_toArray, List.set_cons_zero, List.set_cons_succ]
    refine anyR_val (KI.pre _ _ _ _) 12 rfl (by kernel_rfl) (by kernel_rfl) (by kernel_rfl) (fun _ _ _ _ h => h) rfl ?_; apply Exists.intro; refine ⟨fun w1 hw1 => ?_, ?_⟩; (· (go_simp; rfl)); simp only [Act.put, List.setIfInBounds_toArray, List.set_cons_zero, List.set_cons_succ]
    refine anyR_val (KI.pre _ _ _ _) 13 rfl (by kernel_rfl) (by kernel_rfl) (by kernel_rfl) (fun _ _ _ _ h => h) rfl ?_; apply Exists.intro; refine ⟨fun w1 hw1 => ?_, ?_⟩; (· (go_simp; rfl)); simp only [Act.put, List.setIfInBounds_toArray, List.set_cons_zero, List.set_cons_succ]
    refine anyR_take (KI.pre _ _ _ _) 14 (.int .u32 (wat4 zs 12)) rfl (by kernel_rfl) (by kernel_rfl) (by kernel_rfl) (fun _ _ _ h => h) rfl (fun w1 hw1 => goes_call 32 #[.slice (some ⟨b, off, none⟩) zs.length cap, .int .i64 12] (by go_simp) ?_) ?_
    · exact (rget32_rd _ zs hB 12 (by omega) hl w1 (hr1 w1 hw1)).mono fun e w' ⟨he, hw⟩ => ⟨he, KI.of hw⟩
    simp only [Act.put, List.setIfInBounds_toArray, List.set_cons_zero, List.set_cons_succ]
    refine anyR_val (KI.pre _ _ _ _) 15 rfl (by kernel_rfl) (by kernel_rfl) (by kernel_rfl) (fun _ _ _ _ h => h) rfl ?_; apply Exists.intro; refine ⟨fun w1 hw1 => ?_, ?_⟩; (· (go_simp; rfl)); simp only [Act.put, List.setIfInBounds_toArray, List.set_cons_zero, List.set_cons_succ]
    refine anyR_take (KI.pre _ _ _ _) 16 (.int .u32 (wat4 zs 16)) rfl (by kernel_rfl) (by kernel_rfl) (by kernel_rfl) (fun _ _ _ h => h) rfl (fun w1 hw1 => goes_call 32 #[.slice (some ⟨b, off, none⟩) zs.length cap, .int .i64 16] (by go_simp) ?_) ?_
    · exact (rget32_rd _ zs hB 16 (by omega) hl w1 (hr1 w1 hw1)).mono fun e w' ⟨he, hw⟩ => ⟨he, KI.of hw⟩
    simp only [Act.put, List.setIfInBounds_toArray, List.set_cons_zero, List.set_cons_succ]
    refine anyR_val (KI.pre _ _ _ _) 17 rfl (by kernel_rfl) (by kernel_rfl) (by kernel_rfl) (fun _ _ _ _ h => h) rfl ?_; apply Exists.intro; refine ⟨fun w1 hw1 => ?_, ?_⟩; (· (go_simp; rfl)); simp only [Act.put, List.setIfInBounds_toArray, List.set_cons_zero, List.set_cons_succ]

    refine anyR_one 18 rfl (by kernel_rfl) rfl (fun W6 hW6 => ?_)
    have hs6 : w4.heap.size ≤ W6.heap.size := (hW5.trans hW6).1.size
    unfold Oper.wp
    go_simp
    refine ⟨KI.of ((Below.refl _ _).alloc (Nat.le_refl _) _), ?_⟩
    refine anyR_one 19 rfl (by kernel_rfl) rfl (fun W7 hW7 => ?_)
    have hwr : Wr W6.heap.size 9 26 W7 := hW7.2.1 _ ⟨_, heap_alloc_new W6 _, rfl⟩
    have hst := KI.store (n₁ := w4.heap.size) [.int .u8 z1, .int .u16 (wat zs 4), .bool (decide (16384 ≤ wat zs 6)), .int .u8 z8, .int .u8 z9, .int .u32 (wat4 zs 12), .int .u32 (wat4 zs 16), .slice none 0 0, .slice none 0 0] hs6 hwr rfl
    obtain ⟨cur, hcur, hsz⟩ := hwr
    have k7 := block_cell hcur
    have f7 := block_frozen hcur
    have HS := hide hst
    clear hst
    unfold Oper.wp
    go_simp
    generalize hV : ((((((((W7.setCell ⟨W6.heap.size, 0, none⟩ _).setCell ⟨W6.heap.size, 1, none⟩ _).setCell ⟨W6.heap.size, 2, none⟩ _).setCell ⟨W6.heap.size, 3, none⟩ _).setCell ⟨W6.heap.size, 4, none⟩ _).setCell ⟨W6.heap.size, 5, none⟩ _).setCell ⟨W6.heap.size, 6, none⟩ _).setCell ⟨W6.heap.size, 7, none⟩ _).setCell ⟨W6.heap.size, 8, none⟩ _ = V
    have hV9 : V = putRow W7 W6.heap.size 0 [.int .u8 z1, .int .u16 (wat zs 4), .bool (decide (16384 ≤ wat zs 6)), .int .u8 z8, .int .u8 z9, .int .u32 (wat4 zs 12), .int .u32 (wat4 zs 16), .slice none 0 0, .slice none 0 0] := hV.symm
    have hst := HS.out
    rw [← hV9] at hst
    clear hV hV9 HS k7 f7
    refine ⟨hst.1, anyR_done (by kernel_rfl) (fun W8 hW8 => ?_)⟩
    have p8 := hW8.2.2 _ hst.2
    have hwW8 : Below w.heap.size w W8 := hbel W8 (((hW6.trans (KI.of ((Below.refl _ _).alloc (Nat.le_refl _) _))).trans hW7).trans (hst.1.trans hW8))
    have hq8 : w.heap.size < W6.heap.size := by omega
    have pw8 : Wr w.heap.size 9 26 W8 := hW8.2.1 _ (hst.1.2.1 _ (hW7.2.1 _ ((KI.of ((Below.refl W6.heap.size W6).alloc (Nat.le_refl _) _) : KI w4.heap.size 26 9 (List.toArray [.int .u8 z1, .int .u16 (wat zs 4), .bool (decide (16384 ≤ wat zs 6)), .int .u8 z8, .int .u8 z9, .int .u32 (wat4 zs 12), .int .u32 (wat4 zs 16), .slice none 0 0, .slice none 0 0]) W6 _).2.1 _ (hW6.2.1 _ (hW5.2.1 _ ⟨_, (hL4.block w.heap.size (by omega)).trans p1, rfl⟩)))))
    generalize W6.heap.size = pb at *
    clear hbel hr1 e1 e8 e9 hst hW7 hW6 hs6 hcur hsz hW8
    have hs8 := (Array.getElem?_eq_some_iff.1 p8).1
    have P8 := block_cell p8
    go_wp2_with fail
    have hR8 := (((hI.below hwW8).take k (by omega)).cutAt 20 (by omega)).drew 1
    obtain ⟨v9, W9, hrun9, hown9, hgr9⟩ := run_app (P := Tryz.prog) W8.drew 24 24 5 (pb + 1) i0 Tryz.underlying24 hi hz0 hz1 hz2 (.slice none 0 0) [] (World.ownsRow_nil _ _ _ _) w.heap.size _ ((zs.take k).drop 20) hR8 (by simp; omega) hs8
    have hl9 : Later W8 W9 := Later.trans (Later.drew W8) ((Below.refl _ W8.drew).grown hgr9 (Nat.le_refl _) (fun _ e => by cases e))
    have hO9 := Ow.of_row hown9
    rw [List.nil_append] at hO9
    obtain ⟨a9, cap9, rfl, hq9, hm9⟩ := hO9.slice
    clear hown9 hgr9 hR8
    have p9 := (hl9.block pb hs8).trans p8
    have P9 := block_cell p9
    have F9 := block_frozen p9
    have hLo : Hid (((zs.take k).drop 20).length = k - 20) := by show _ = _; simp; omega
    rw [hLo.out] at hrun9 hO9
    have i20 : (20 : Int) ≤ k := by omega
    go_region_law (refine step_run rfl (.tmp 92) (.tmp 95) 24 rfl _ _ rfl rfl _ W9 hrun9 ?_)
    clear hrun9 P8 P9 F9
    generalize (if cap = 20 then some (⟨b, off, none⟩ : Addr) else some ⟨b, off + 20, none⟩) = ad20 at *
    have p10 : (W9.setCell ⟨pb, 7, none⟩ (.slice a9 (k - 20) cap9)).heap[pb]? = some (.cells (List.toArray [.int .u8 z1, .int .u16 (wat zs 4), .bool (decide (16384 ≤ wat zs 6)), .int .u8 z8, .int .u8 z9, .int .u32 (wat4 zs 12), .int .u32 (wat4 zs 16), .slice a9 (k - 20) cap9, .slice none 0 0]) 26 (0, 0)) := heap_set1 p9 7 (.slice a9 (k - 20) cap9)
    have hE9 : But (fun b => b = pb) W9 (W9.setCell ⟨pb, 7, none⟩ (.slice a9 (k - 20) cap9)) := (But.refl (fun b => b = pb) W9).setCell (p := ⟨pb, 7, none⟩) (E := fun b => b = pb) rfl _
    have hO10 := hO9.but hE9 (fun b h e => by omega)
    have hw10 : Below w.heap.size w _ := (hwW8.trans (hl9.mono hwW8.size)).setCell (p := ⟨pb, 7, none⟩) (Nat.le_of_lt hq8) (.slice a9 (k - 20) cap9)
    have pw10 : Wr w.heap.size 9 26 (W9.setCell ⟨pb, 7, none⟩ (.slice a9 (k - 20) cap9)) := by
      obtain ⟨c, h1, h2⟩ := pw8.later hl9
      exact ⟨c, (hE9.block _ (Array.getElem?_eq_some_iff.1 h1).1 (by omega)).trans h1, h2⟩
    generalize W9.setCell ⟨pb, 7, none⟩ (.slice a9 (k - 20) cap9) = W10 at *
    clear hO9 p9 hE9 hl9 hwW8 pw8
    have hs10 := (Array.getElem?_eq_some_iff.1 p10).1
    have P10 := block_cell p10
    go_wp2_with fail
    have hR10 := (((hI.below hw10).take n (by omega)).cutAt k (by omega)).drew 1
    obtain ⟨v11, W11, hrun11, hown11, hgr11⟩ := run_app (P := Tryz.prog) W10.drew 24 24 5 (pb + 1) i0 Tryz.underlying24 hi hz0 hz1 hz2 (.slice none 0 0) [] (World.ownsRow_nil _ _ _ _) w.heap.size _ ((zs.take n).drop k) hR10 (by simp; omega) hs10
    have hl11 : Later W10 W11 := Later.trans (Later.drew W10) ((Below.refl _ W10.drew).grown hgr11 (Nat.le_refl _) (fun _ e => by cases e))
    have hO11 := Ow.of_row hown11
    rw [List.nil_append] at hO11
    obtain ⟨a11, cap11, rfl, hq11, hm11⟩ := hO11.slice
    clear hown11 hgr11 hR10
    have p11 := (hl11.block pb hs10).trans p10
    have P11 := block_cell p11
    have F11 := block_frozen p11
    have hLd : Hid (((zs.take n).drop k).length = n - k) := by show _ = _; simp; try omega
    rw [hLd.out] at hrun11 hO11
    have ikn : (k : Int) ≤ n := by omega
    have inc : n ≤ cap := by omega
    have inc2 : (n : Int) ≤ cap := by omega
    go_region_law (refine step_run rfl (.tmp 99) (.tmp 103) 24 rfl _ _ rfl rfl _ W11 hrun11 ?_)
    clear hrun11 P10 P11 F11
    generalize (if cap = k then some (⟨b, off, none⟩ : Addr) else some ⟨b, off + k, none⟩) = adk at *
    have p12 : (W11.setCell ⟨pb, 8, none⟩ (.slice a11 (n - k) cap11)).heap[pb]? = some (.cells (List.toArray [.int .u8 z1, .int .u16 (wat zs 4), .bool (decide (16384 ≤ wat zs 6)), .int .u8 z8, .int .u8 z9, .int .u32 (wat4 zs 12), .int .u32 (wat4 zs 16), .slice a9 (k - 20) cap9, .slice a11 (n - k) cap11]) 26 (0, 0)) := heap_set1 p11 8 (.slice a11 (n - k) cap11)
    have hE11 : But (fun b => b = pb) W11 (W11.setCell ⟨pb, 8, none⟩ (.slice a11 (n - k) cap11)) := (But.refl (fun b => b = pb) W11).setCell (p := ⟨pb, 8, none⟩) (E := fun b => b = pb) rfl _
    have hO12 := hO11.but hE11 (fun b h e => by omega)
    have hO13 := (hO10.below hl11 (Nat.le_refl _)).but hE11 (fun b h e => by omega)
    have hw12 : Below w.heap.size w _ := (hw10.trans (hl11.mono hw10.size)).setCell (p := ⟨pb, 8, none⟩) (Nat.le_of_lt hq8) (.slice a11 (n - k) cap11)
    have pw12 : Wr w.heap.size 9 26 (W11.setCell ⟨pb, 8, none⟩ (.slice a11 (n - k) cap11)) := by
      obtain ⟨c, h1, h2⟩ := pw10.later hl11
      exact ⟨c, (hE11.block _ (Array.getElem?_eq_some_iff.1 h1).1 (by omega)).trans h1, h2⟩
    generalize W11.setCell ⟨pb, 8, none⟩ (.slice a11 (n - k) cap11) = W12 at *
    clear hO11 p11 hE11 hl11 hw10 pw10 hO10
    have P12 := block_cell p12
    obtain ⟨cur, hcur, hsz⟩ := pw12
    have C12 := block_cell hcur
    have F12 := block_frozen hcur
    go_wp2_with fail
    generalize hV : ((((((((W12.setCell ⟨w.heap.size, 0, none⟩ _).setCell ⟨w.heap.size, 1, none⟩ _).setCell ⟨w.heap.size, 2, none⟩ _).setCell ⟨w.heap.size, 3, none⟩ _).setCell ⟨w.heap.size, 4, none⟩ _).setCell ⟨w.heap.size, 5, none⟩ _).setCell ⟨w.heap.size, 6, none⟩ _).setCell ⟨w.heap.size, 7, none⟩ _).setCell ⟨w.heap.size, 8, none⟩ _ = V
    have hV9 : V = putRow W12 w.heap.size 0 [.int .u8 z1, .int .u16 (wat zs 4), .bool (decide (16384 ≤ wat zs 6)), .int .u8 z8, .int .u8 z9, .int .u32 (wat4 zs 12), .int .u32 (wat4 zs 16), .slice a9 (k - 20) cap9, .slice a11 (n - k) cap11] := hV.symm
    have hb13 : But (fun b => b = w.heap.size) W12 V := by rw [hV9]; exact putRow_but (E := fun b => b = w.heap.size) (n := w.heap.size) rfl _ _ _ _ (But.refl _ _)
    have p13 := putRow_all [.int .u8 z1, .int .u16 (wat zs 4), .bool (decide (16384 ≤ wat zs 6)), .int .u8 z8, .int .u8 z9, .int .u32 (wat4 zs 12), .int .u32 (wat4 zs 16), .slice a9 (k - 20) cap9, .slice a11 (n - k) cap11] hcur (by simpa using hsz)
    rw [← hV9] at p13
    have hd : decide (16384 ≤ wat zs 6 % 32768) = decide (16384 ≤ wat zs 6) := by rw [Int.emod_eq_of_lt (by omega) (by omega)]
    have hpk : pkt zs (.slice a9 (k - 20) cap9) (.slice a11 (n - k) cap11) = .agg (List.toArray [.int .u8 z1, .int .u16 (wat zs 4), .bool (decide (16384 ≤ wat zs 6)), .int .u8 z8, .int .u8 z9, .int .u32 (wat4 zs 12), .int .u32 (wat4 zs 16), .slice a9 (k - 20) cap9, .slice a11 (n - k) cap11]) := by unfold pkt; rw [G1.out, G8.out, G9.out, hd]
    refine bodyPost_ret (v := .tuple #[pkt zs (.slice a9 (k - 20) cap9) (.slice a11 (n - k) cap11), .int .i64 0]) (by rw [hpk]; exact res_rread _ w.heap.size 0 _ _ _ _ _ _ _ _ _ V rfl rfl p13) rfl ⟨hw12.trans (hb13.below hw12.size (fun j h e => by omega)), .inr ⟨HR.out, _, _, rfl, ?_, ?_⟩⟩
    · rw [HK.out, Int.toNat_natCast]
      exact (hO13.but hb13 (fun b h e => by omega)).mono (by omega)
    · rw [HK.out, HN.out, Int.toNat_natCast, Int.toNat_natCast]
      exact (hO12.but hb13 (fun b h e => by omega)).mono (by omega)

  · by_cases h6 : (zs.length : Int) < wat zs 2
    · go_wp2_with fail
      refine (rgood_any _ (zs.take k) (hB.take _) (by simp; omega) w2 (((hI.take k (by omega)).below (hb1.trans (hl2.mono (by omega)))).mono (by omega))).mono ?_
      rintro e w3 ⟨rfl, hl3⟩
      have hL3 : Later _ w3 := hl2.trans hl3
      have z3 := hL3.size
      cases hg : (Mt.cks (zs.take k) == 0)
      · have hc5 : chk zs = 5 := by unfold chk; rw [HK.out, Int.toNat_natCast, if_pos (by simpa using hg)]
        have HR : Hid (rde true zs = 5) := by show _ = _; unfold rde; rw [hm0.out, if_neg (by simp), if_neg (by simp [ral]; omega), hc5]; rfl
        clear hc5
        have pk := ((hL3).block w.heap.size (by omega)).trans p1
        have Pk := block_cell pk
        have Fk := block_frozen pk
        go_wp2_with fail
        clear Pk Fk
        generalize hV : ((((((((w3.setCell ⟨w.heap.size, 0, none⟩ _).setCell ⟨w.heap.size, 1, none⟩ _).setCell ⟨w.heap.size, 2, none⟩ _).setCell ⟨w.heap.size, 3, none⟩ _).setCell ⟨w.heap.size, 4, none⟩ _).setCell ⟨w.heap.size, 5, none⟩ _).setCell ⟨w.heap.size, 6, none⟩ _).setCell ⟨w.heap.size, 7, none⟩ _).setCell ⟨w.heap.size, 8, none⟩ _ = V
        have hV9 : V = putRow w3 w.heap.size 0 zc := hV.symm
        have hb8 : But (fun b => b = w.heap.size) w3 V := by rw [hV9]; exact putRow_but (E := fun b => b = w.heap.size) (n := w.heap.size) rfl _ _ _ _ (But.refl _ _)
        have p8 := putRow_all zc pk rfl
        rw [← hV9] at p8
        exact rexit _ w.heap.size 5 _ rfl rfl p8 ⟨(hb1.trans ((hL3).mono (by omega))).trans (hb8.below (Nat.le_trans (by omega) (hL3).size) (fun j h e => by omega)), .inl (by rw [HR.out]; exact ⟨by omega, rfl⟩)⟩

      have hg0 : Mt.cks (zs.take k) = 0 := by simpa using hg
      have Hg := hide hg0
      clear hg hg0
      go_wp2_with fail
      refine (rget16_rd _ zs hB 6 (by omega) hl w3 (hI.below (hb1.trans (hL3.mono (by omega))))).mono ?_
      rintro e w4 ⟨rfl, hl4'⟩
      have hL4 : Later _ w4 := hL3.trans hl4'
      have z4 := hL4.size
      have hff := wat_bd hB 6
      by_cases h7 : wat zs 6 % 16384 ≠ 0
      · have t7 : (wat zs 6 % 16384 != 0) = true := by simpa using h7
        have hc5 : chk zs = 7 := by unfold chk; rw [HK.out, Int.toNat_natCast, if_neg (by simp [Hg.out]), if_pos h7]
        have HR : Hid (rde true zs = 7) := by show _ = _; unfold rde; rw [hm0.out, if_neg (by simp), if_neg (by simp [ral]; omega), hc5]; rfl
        clear hc5
        have pk := ((hL4).block w.heap.size (by omega)).trans p1
        have Pk := block_cell pk
        have Fk := block_frozen pk
        go_wp2_with fail
        clear Pk Fk
        generalize hV : ((((((((w4.setCell ⟨w.heap.size, 0, none⟩ _).setCell ⟨w.heap.size, 1, none⟩ _).setCell ⟨w.heap.size, 2, none⟩ _).setCell ⟨w.heap.size, 3, none⟩ _).setCell ⟨w.heap.size, 4, none⟩ _).setCell ⟨w.heap.size, 5, none⟩ _).setCell ⟨w.heap.size, 6, none⟩ _).setCell ⟨w.heap.size, 7, none⟩ _).setCell ⟨w.heap.size, 8, none⟩ _ = V
        have hV9 : V = putRow w4 w.heap.size 0 zc := hV.symm
        have hb8 : But (fun b => b = w.heap.size) w4 V := by rw [hV9]; exact putRow_but (E := fun b => b = w.heap.size) (n := w.heap.size) rfl _ _ _ _ (But.refl _ _)
        have p8 := putRow_all zc pk rfl
        rw [← hV9] at p8
        exact rexit _ w.heap.size 7 _ rfl rfl p8 ⟨(hb1.trans ((hL4).mono (by omega))).trans (hb8.below (Nat.le_trans (by omega) (hL4).size) (fun j h e => by omega)), .inl (by rw [HR.out]; exact ⟨by omega, rfl⟩)⟩

      have t7 : (wat zs 6 % 16384 != 0) = false := by simpa using h7
      by_cases h8 : 32768 ≤ wat zs 6
      · have hc5 : chk zs = 4 := by unfold chk; rw [HK.out, Int.toNat_natCast, if_neg (by simp [Hg.out]), if_neg h7, if_pos h8]
        have HR : Hid (rde true zs = 4) := by show _ = _; unfold rde; rw [hm0.out, if_neg (by simp), if_neg (by simp [ral]; omega), hc5]; rfl
        clear hc5
        have pk := ((hL4).block w.heap.size (by omega)).trans p1
        have Pk := block_cell pk
        have Fk := block_frozen pk
        go_wp2_with fail
        clear Pk Fk
        generalize hV : ((((((((w4.setCell ⟨w.heap.size, 0, none⟩ _).setCell ⟨w.heap.size, 1, none⟩ _).setCell ⟨w.heap.size, 2, none⟩ _).setCell ⟨w.heap.size, 3, none⟩ _).setCell ⟨w.heap.size, 4, none⟩ _).setCell ⟨w.heap.size, 5, none⟩ _).setCell ⟨w.heap.size, 6, none⟩ _).setCell ⟨w.heap.size, 7, none⟩ _).setCell ⟨w.heap.size, 8, none⟩ _ = V
        have hV9 : V = putRow w4 w.heap.size 0 zc := hV.symm
        have hb8 : But (fun b => b = w.heap.size) w4 V := by rw [hV9]; exact putRow_but (E := fun b => b = w.heap.size) (n := w.heap.size) rfl _ _ _ _ (But.refl _ _)
        have p8 := putRow_all zc pk rfl
        rw [← hV9] at p8
        exact rexit _ w.heap.size 4 _ rfl rfl p8 ⟨(hb1.trans ((hL4).mono (by omega))).trans (hb8.below (Nat.le_trans (by omega) (hL4).size) (fun j h e => by omega)), .inl (by rw [HR.out]; exact ⟨by omega, rfl⟩)⟩

      have hc0 : Hid (chk zs = 0) := by show _ = _; unfold chk; rw [HK.out, Int.toNat_natCast, if_neg (by simp [Hg.out]), if_neg h7, if_neg h8]

      by_cases h9 : (zs.length : Int) - (k : Int) < 8
      · have HR : Hid (rde true zs = 3) := by show _ = _; unfold rde; rw [hm0.out, if_neg (by simp), if_neg (by simp [ral]; omega), hc0.out, if_neg (by simp), HK.out, if_pos ⟨rfl, by simp [ral]; omega⟩]
        have pk := ((hL4).block w.heap.size (by omega)).trans p1
        have Pk := block_cell pk
        have Fk := block_frozen pk
        go_wp2_with fail
        clear Pk Fk
        generalize hV : ((((((((w4.setCell ⟨w.heap.size, 0, none⟩ _).setCell ⟨w.heap.size, 1, none⟩ _).setCell ⟨w.heap.size, 2, none⟩ _).setCell ⟨w.heap.size, 3, none⟩ _).setCell ⟨w.heap.size, 4, none⟩ _).setCell ⟨w.heap.size, 5, none⟩ _).setCell ⟨w.heap.size, 6, none⟩ _).setCell ⟨w.heap.size, 7, none⟩ _).setCell ⟨w.heap.size, 8, none⟩ _ = V
        have hV9 : V = putRow w4 w.heap.size 0 zc := hV.symm
        have hb8 : But (fun b => b = w.heap.size) w4 V := by rw [hV9]; exact putRow_but (E := fun b => b = w.heap.size) (n := w.heap.size) rfl _ _ _ _ (But.refl _ _)
        have p8 := putRow_all zc pk rfl
        rw [← hV9] at p8
        exact rexit _ w.heap.size 3 _ rfl rfl p8 ⟨(hb1.trans ((hL4).mono (by omega))).trans (hb8.below (Nat.le_trans (by omega) (hL4).size) (fun j h e => by omega)), .inl (by rw [HR.out]; exact ⟨by omega, rfl⟩)⟩

      have HR : Hid (rde true zs = 0) := by show _ = _; unfold rde; rw [hm0.out, if_neg (by simp), if_neg (by simp [ral]; omega), hc0.out, if_neg (by simp), HK.out, if_neg (by simp [ral]; omega)]

      go_wp2_with fail
      have hkn : 20 ≤ k ∧ k ≤ zs.length ∧ zs.length ≤ zs.length := by omega
      have HN : Hid (ral true zs = (zs.length : Int)) := by show _ = _; simp [ral]; omega

      have d1 := hc 1 (by omega)
      have d8 := hc 8 (by omega)
      have d9 := hc 9 (by omega)
      have hbw4 := hb1.trans (hL4.mono (by omega))
      generalize gz1 : zs[1]?.getD 0 = z1 at *
      generalize gz8 : zs[8]?.getD 0 = z8 at *
      generalize gz9 : zs[9]?.getD 0 = z9 at *
      have G1 := hide gz1
      have G8 := hide gz8
      have G9 := hide gz9
      clear gz1 gz8 gz9
      have i1 : (1 : Int) < zs.length := by omega
      have i8 : (8 : Int) < zs.length := by omega
      have i9 : (9 : Int) < zs.length := by omega
      refine anyR_begin (R := KI w4.heap.size 26 9 (List.toArray [.int .u8 z1, .int .u16 (wat zs 4), .bool (decide (16384 ≤ wat zs 6)), .int .u8 z8, .int .u8 z9, .int .u32 (wat4 zs 12), .int .u32 (wat4 zs 16), .slice none 0 0, .slice none 0 0])) (KI.pre _ _ _ _) (fun w => KI.of (Later.drew w)) 20 rfl (by kernel_rfl) (fun W5 hW5 => ?_)
      have hbel : ∀ w1, KI w4.heap.size 26 9 (List.toArray [.int .u8 z1, .int .u16 (wat zs 4), .bool (decide (16384 ≤ wat zs 6)), .int .u8 z8, .int .u8 z9, .int .u32 (wat4 zs 12), .int .u32 (wat4 zs 16), .slice none 0 0, .slice none 0 0]) W5 w1 → Below w.heap.size w w1 := fun w1 h => hbw4.trans (((hW5.trans h).1.below (Nat.le_refl _) (fun k hk e => by omega)).mono (by omega))
      have hr1 : ∀ w1, KI w4.heap.size 26 9 (List.toArray [.int .u8 z1, .int .u16 (wat zs 4), .bool (decide (16384 ≤ wat zs 6)), .int .u8 z8, .int .u8 z9, .int .u32 (wat4 zs 12), .int .u32 (wat4 zs 16), .slice none 0 0, .slice none 0 0]) W5 w1 → Rd w.heap.size w1 (.slice (some ⟨b, off, none⟩) zs.length cap) zs := fun w1 h => hI.below (hbel w1 h)
      have e1 : ∀ w1, KI w4.heap.size 26 9 (List.toArray [.int .u8 z1, .int .u16 (wat zs 4), .bool (decide (16384 ≤ wat zs 6)), .int .u8 z8, .int .u8 z9, .int .u32 (wat4 zs 12), .int .u32 (wat4 zs 16), .slice none 0 0, .slice none 0 0]) W5 w1 → w1.cell? ⟨b, off + 1, none⟩ = some (.int .u8 z1) := fun w1 h => ((hbel w1 h).cell (p := ⟨b, off + 1, none⟩) hb).trans d1
      have e8 : ∀ w1, KI w4.heap.size 26 9 (List.toArray [.int .u8 z1, .int .u16 (wat zs 4), .bool (decide (16384 ≤ wat zs 6)), .int .u8 z8, .int .u8 z9, .int .u32 (wat4 zs 12), .int .u32 (wat4 zs 16), .slice none 0 0, .slice none 0 0]) W5 w1 → w1.cell? ⟨b, off + 8, none⟩ = some (.int .u8 z8) := fun w1 h => ((hbel w1 h).cell (p := ⟨b, off + 8, none⟩) hb).trans d8
      have e9 : ∀ w1, KI w4.heap.size 26 9 (List.toArray [.int .u8 z1, .int .u16 (wat zs 4), .bool (decide (16384 ≤ wat zs 6)), .int .u8 z8, .int .u8 z9, .int .u32 (wat4 zs 12), .int .u32 (wat4 zs 16), .slice none 0 0, .slice none 0 0]) W5 w1 → w1.cell? ⟨b, off + 9, none⟩ = some (.int .u8 z9) := fun w1 h => ((hbel w1 h).cell (p := ⟨b, off + 9, none⟩) hb).trans d9
      clear d1 d8 d9
      refine anyR_val (KI.pre _ _ _ _) 0 rfl (by kernel_rfl) (by kernel_rfl) (by kernel_rfl) (fun _ _ _ _ h => h) rfl ?_; apply Exists.intro; refine ⟨fun w1 hw1 => ?_, ?_⟩; (· (go_simp; rfl)); simp only [Act.put, List.setIfInBounds_toArray, List.set_cons_zero, List.set_cons_succ]
      refine anyR_val (KI.pre _ _ _ _) 1 rfl (by kernel_rfl) (by kernel_rfl) (by kernel_rfl) (fun _ _ _ _ h => h) rfl ?_; apply Exists.intro; refine ⟨fun w1 hw1 => ?_, ?_⟩; (· (go_simp; rfl)); simp only [Act.put, List.setIfInBounds_toArray, List.set_cons_zero, List.set_cons_succ]
      refine anyR_val (KI.pre _ _ _ _) 2 rfl (by kernel_rfl) (by kernel_rfl) (by kernel_rfl) (fun _ _ _ _ h => h) rfl ?_; apply Exists.intro; refine ⟨fun w1 hw1 => ?_, ?_⟩; (· (go_simp; rfl)); simp only [Act.put, List.setIfInBounds_toArray, List.set_cons_zero, List.set_cons_succ]
      refine anyR_val (KI.pre _ _ _ _) 3 rfl (by kernel_rfl) (by kernel_rfl) (by kernel_rfl) (fun _ _ _ _ h => h) rfl ?_; apply Exists.intro; refine ⟨fun w1 hw1 => ?_, ?_⟩; (· (go_simp; rfl)); simp only [Act.put, List.setIfInBounds_toArray, List.set_cons_zero, List.set_cons_succ]
      refine anyR_take (KI.pre _ _ _ _) 4 (.int .u16 (wat zs 4)) rfl (by kernel_rfl) (by kernel_rfl) (by kernel_rfl) (fun _ _ _ h => h) rfl (fun w1 hw1 => goes_call 65 #[.slice (some ⟨b, off, none⟩) zs.length cap, .int .i64 4] (by go_simp) ?_) ?_
      · exact (rget16_rd _ zs hB 4 (by omega) hl w1 (hr1 w1 hw1)).mono fun e w' ⟨he, hw⟩ => ⟨he, KI.of hw⟩
      simp only [Act.put, List.setIfInBounds_toArray, List.set_cons_zero, List.set_cons_succ]
      refine anyR_val (KI.pre _ _ _ _) 5 rfl (by kernel_rfl) (by kernel_rfl) (by kernel_rfl) (fun _ _ _ _ h => h) rfl ?_; apply Exists.intro; refine ⟨fun w1 hw1 => ?_, ?_⟩; (· (go_simp; rfl)); simp only [Act.put, List.setIfInBounds_toArray, List.set_cons_zero, List.set_cons_succ]
      refine anyR_val (KI.pre _ _ _ _) 6 rfl (by kernel_rfl) (by kernel_rfl) (by kernel_rfl) (fun _ _ _ _ h => h) rfl ?_; apply Exists.intro; refine ⟨fun w1 hw1 => ?_, ?_⟩; (· (go_simp; rfl)); simp only [Act.put, List.setIfInBounds_toArray, List.set_cons_zero, List.set_cons_succ]
      refine anyR_val (KI.pre _ _ _ _) 7 rfl (by kernel_rfl) (by kernel_rfl) (by kernel_rfl) (fun _ _ _ _ h => h) rfl ?_; apply Exists.intro; refine ⟨fun w1 hw1 => ?_, ?_⟩; (· (go_simp; rfl)); simp only [Act.put, List.setIfInBounds_toArray, List.set_cons_zero, List.set_cons_succ]
      refine anyR_val (KI.pre _ _ _ _) 8 rfl (by kernel_rfl) (by kernel_rfl) (by kernel_rfl) (fun _ _ _ _ h => h) rfl ?_; apply Exists.intro; refine ⟨fun w1 hw1 => ?_, ?_⟩; (· (go_simp; rfl)); simp only [Act.put, List.setIfInBounds_toArray, List.set_cons_zero, List.set_cons_succ]
      refine anyR_val (KI.pre _ _ _ _) 9 rfl (by kernel_rfl) (by kernel_rfl) (by kernel_rfl) (fun _ _ _ _ h => h) rfl ?_; apply Exists.intro; refine ⟨fun w1 hw1 => ?_, ?_⟩; (· (go_simp; rfl)); simp only [Act.put, List.setIfInBounds_toArray, List.set_cons_zero, List.set_cons_succ]
      refine anyR_val (KI.pre _ _ _ _) 10 rfl (by kernel_rfl) (by kernel_rfl) (by kernel_rfl) (fun _ _ _ _ h => h) rfl ?_; apply Exists.intro; refine ⟨fun w1 hw1 => ?_, ?_⟩; (· (go_simp; rfl)); simp only [Act.put, List.setIfInBounds_toArray, List.set_cons_zero, List.set_cons_succ]
      refine anyR_val (KI.pre _ _ _ _) 11 rfl (by kernel_rfl) (by kernel_rfl) (by kernel_rfl) (fun _ _ _ _ h => h) rfl ?_; apply Exists.intro; refine ⟨fun w1 hw1 => ?_, ?_⟩; (· (go_simp; rfl)); simp only [Act.put, List.setIfInBounds_toArray, List.set_cons_zero, List.set_cons_succ]
      refine anyR_val (KI.pre _ _ _ _) 12 rfl (by kernel_rfl) (by kernel_rfl) (by kernel_rfl) (fun _ _ _ _ h => h) rfl ?_; apply Exists.intro; refine ⟨fun w1 hw1 => ?_, ?_⟩; (· (go_simp; rfl)); simp only [Act.put, List.setIfInBounds_toArray, List.set_cons_zero, List.set_cons_succ]
      refine anyR_val (KI.pre _ _ _ _) 13 rfl (by kernel_rfl) (by kernel_rfl) (by kernel_rfl) (fun _ _ _ _ h => h) rfl ?_; apply Exists.intro; refine ⟨fun w1 hw1 => ?_, ?_⟩; (· (go_simp; rfl)); simp only [Act.put, List.setIfInBounds_toArray, List.set_cons_zero, List.set_cons_succ]
      refine anyR_take (KI.pre _ _ _ _) 14 (.int .u32 (wat4 zs 12)) rfl (by kernel_rfl) (by kernel_rfl) (by kernel_rfl) (fun _ _ _ h => h) rfl (fun w1 hw1 => goes_call 32 #[.slice (some ⟨b, off, none⟩) zs.length cap, .int .i64 12] (by go_simp) ?_) ?_
      · exact (rget32_rd _ zs hB 12 (by omega) hl w1 (hr1 w1 hw1)).mono fun e w' ⟨he, hw⟩ => ⟨he, KI.of hw⟩
      simp only [Act.put, List.setIfInBounds_toArray, List.set_cons_zero, List.set_cons_succ]
      refine anyR_val (KI.pre _ _ _ _) 15 rfl (by kernel_rfl) (by kernel_rfl) (by kernel_rfl) (fun _ _ _ _ h => h) rfl ?_; apply Exists.intro; refine ⟨fun w1 hw1 => ?_, ?_⟩; (· (go_simp; rfl)); simp only [Act.put, List.setIfInBounds_toArray, List.set_cons_zero, List.set_cons_succ]
      refine anyR_take (KI.pre _ _ _ _) 16 (.int .u32 (wat4 zs 16)) rfl (by kernel_rfl) (by kernel_rfl) (by kernel_rfl) (fun _ _ _ h => h) rfl (fun w1 hw1 => goes_call 32 #[.slice (some ⟨b, off, none⟩) zs.length cap, .int .i64 16] (by go_simp) ?_) ?_
      · exact (rget32_rd _ zs hB 16 (by omega) hl w1 (hr1 w1 hw1)).mono fun e w' ⟨he, hw⟩ => ⟨he, KI.of hw⟩
      simp only [Act.put, List.setIfInBounds_toArray, List.set_cons_zero, List.set_cons_succ]
      refine anyR_val (KI.pre _ _ _ _) 17 rfl (by kernel_rfl) (by kernel_rfl) (by kernel_rfl) (fun _ _ _ _ h => h) rfl ?_; apply Exists.intro; refine ⟨fun w1 hw1 => ?_, ?_⟩; (· (go_simp; rfl)); simp only [Act.put, List.setIfInBounds_toArray, List.set_cons_zero, List.set_cons_succ]

      refine anyR_one 18 rfl (by kernel_rfl) rfl (fun W6 hW6 => ?_)
      have hs6 : w4.heap.size ≤ W6.heap.size := (hW5.trans hW6).1.size
      unfold Oper.wp
      go_simp
      refine ⟨KI.of ((Below.refl _ _).alloc (Nat.le_refl _) _), ?_⟩
      refine anyR_one 19 rfl (by kernel_rfl) rfl (fun W7 hW7 => ?_)
      have hwr : Wr W6.heap.size 9 26 W7 := hW7.2.1 _ ⟨_, heap_alloc_new W6 _, rfl⟩
      have hst := KI.store (n₁ := w4.heap.size) [.int .u8 z1, .int .u16 (wat zs 4), .bool (decide (16384 ≤ wat zs 6)), .int .u8 z8, .int .u8 z9, .int .u32 (wat4 zs 12), .int .u32 (wat4 zs 16), .slice none 0 0, .slice none 0 0] hs6 hwr rfl
      obtain ⟨cur, hcur, hsz⟩ := hwr
      have k7 := block_cell hcur
      have f7 := block_frozen hcur
      have HS := hide hst
      clear hst
      unfold Oper.wp
      go_simp
      generalize hV : ((((((((W7.setCell ⟨W6.heap.size, 0, none⟩ _).setCell ⟨W6.heap.size, 1, none⟩ _).setCell ⟨W6.heap.size, 2, none⟩ _).setCell ⟨W6.heap.size, 3, none⟩ _).setCell ⟨W6.heap.size, 4, none⟩ _).setCell ⟨W6.heap.size, 5, none⟩ _).setCell ⟨W6.heap.size, 6, none⟩ _).setCell ⟨W6.heap.size, 7, none⟩ _).setCell ⟨W6.heap.size, 8, none⟩ _ = V
      have hV9 : V = putRow W7 W6.heap.size 0 [.int .u8 z1, .int .u16 (wat zs 4), .bool (decide (16384 ≤ wat zs 6)), .int .u8 z8, .int .u8 z9, .int .u32 (wat4 zs 12), .int .u32 (wat4 zs 16), .slice none 0 0, .slice none 0 0] := hV.symm
      have hst := HS.out
      rw [← hV9] at hst
      clear hV hV9 HS k7 f7
      refine ⟨hst.1, anyR_done (by kernel_rfl) (fun W8 hW8 => ?_)⟩
      have p8 := hW8.2.2 _ hst.2
      have hwW8 : Below w.heap.size w W8 := hbel W8 (((hW6.trans (KI.of ((Below.refl _ _).alloc (Nat.le_refl _) _))).trans hW7).trans (hst.1.trans hW8))
      have hq8 : w.heap.size < W6.heap.size := by omega
      have pw8 : Wr w.heap.size 9 26 W8 := hW8.2.1 _ (hst.1.2.1 _ (hW7.2.1 _ ((KI.of ((Below.refl W6.heap.size W6).alloc (Nat.le_refl _) _) : KI w4.heap.size 26 9 (List.toArray [.int .u8 z1, .int .u16 (wat zs 4), .bool (decide (16384 ≤ wat zs 6)), .int .u8 z8, .int .u8 z9, .int .u32 (wat4 zs 12), .int .u32 (wat4 zs 16), .slice none 0 0, .slice none 0 0]) W6 _).2.1 _ (hW6.2.1 _ (hW5.2.1 _ ⟨_, (hL4.block w.heap.size (by omega)).trans p1, rfl⟩)))))
      generalize W6.heap.size = pb at *
      clear hbel hr1 e1 e8 e9 hst hW7 hW6 hs6 hcur hsz hW8
      have hs8 := (Array.getElem?_eq_some_iff.1 p8).1
      have P8 := block_cell p8
      go_wp2_with fail
      have hR8 := (((hI.below hwW8).take k (by omega)).cutAt 20 (by omega)).drew 1
      obtain ⟨v9, W9, hrun9, hown9, hgr9⟩ := run_app (P := Tryz.prog) W8.drew 24 24 5 (pb + 1) i0 Tryz.underlying24 hi hz0 hz1 hz2 (.slice none 0 0) [] (World.ownsRow_nil _ _ _ _) w.heap.size _ ((zs.take k).drop 20) hR8 (by simp; omega) hs8
      have hl9 : Later W8 W9 := Later.trans (Later.drew W8) ((Below.refl _ W8.drew).grown hgr9 (Nat.le_refl _) (fun _ e => by cases e))
      have hO9 := Ow.of_row hown9
      rw [List.nil_append] at hO9
      obtain ⟨a9, cap9, rfl, hq9, hm9⟩ := hO9.slice
      clear hown9 hgr9 hR8
      have p9 := (hl9.block pb hs8).trans p8
      have P9 := block_cell p9
      have F9 := block_frozen p9
      have hLo : Hid (((zs.take k).drop 20).length = k - 20) := by show _ = _; simp; omega
      rw [hLo.out] at hrun9 hO9
      have i20 : (20 : Int) ≤ k := by omega
      go_region_law (refine step_run rfl (.tmp 92) (.tmp 95) 24 rfl _ _ rfl rfl _ W9 hrun9 ?_)
      clear hrun9 P8 P9 F9
      generalize (if cap = 20 then some (⟨b, off, none⟩ : Addr) else some ⟨b, off + 20, none⟩) = ad20 at *
      have p10 : (W9.setCell ⟨pb, 7, none⟩ (.slice a9 (k - 20) cap9)).heap[pb]? = some (.cells (List.toArray [.int .u8 z1, .int .u16 (wat zs 4), .bool (decide (16384 ≤ wat zs 6)), .int .u8 z8, .int .u8 z9, .int .u32 (wat4 zs 12), .int .u32 (wat4 zs 16), .slice a9 (k - 20) cap9, .slice none 0 0]) 26 (0, 0)) := heap_set1 p9 7 (.slice a9 (k - 20) cap9)
      have hE9 : But (fun b => b = pb) W9 (W9.setCell ⟨pb, 7, none⟩ (.slice a9 (k - 20) cap9)) := (But.refl (fun b => b = pb) W9).setCell (p := ⟨pb, 7, none⟩) (E := fun b => b = pb) rfl _
      have hO10 := hO9.but hE9 (fun b h e => by omega)
      have hw10 : Below w.heap.size w _ := (hwW8.trans (hl9.mono hwW8.size)).setCell (p := ⟨pb, 7, none⟩) (Nat.le_of_lt hq8) (.slice a9 (k - 20) cap9)
      have pw10 : Wr w.heap.size 9 26 (W9.setCell ⟨pb, 7, none⟩ (.slice a9 (k - 20) cap9)) := by
        obtain ⟨c, h1, h2⟩ := pw8.later hl9
        exact ⟨c, (hE9.block _ (Array.getElem?_eq_some_iff.1 h1).1 (by omega)).trans h1, h2⟩
      generalize W9.setCell ⟨pb, 7, none⟩ (.slice a9 (k - 20) cap9) = W10 at *
      clear hO9 p9 hE9 hl9 hwW8 pw8
      have hs10 := (Array.getElem?_eq_some_iff.1 p10).1
      have P10 := block_cell p10
      go_wp2_with fail
      have hR10 := (((hI.below hw10).take zs.length (by omega)).cutAt k (by omega)).drew 1
      obtain ⟨v11, W11, hrun11, hown11, hgr11⟩ := run_app (P := Tryz.prog) W10.drew 24 24 5 (pb + 1) i0 Tryz.underlying24 hi hz0 hz1 hz2 (.slice none 0 0) [] (World.ownsRow_nil _ _ _ _) w.heap.size _ ((zs.take zs.length).drop k) hR10 (by simp; omega) hs10
      have hl11 : Later W10 W11 := Later.trans (Later.drew W10) ((Below.refl _ W10.drew).grown hgr11 (Nat.le_refl _) (fun _ e => by cases e))
      have hO11 := Ow.of_row hown11
      rw [List.nil_append] at hO11
      obtain ⟨a11, cap11, rfl, hq11, hm11⟩ := hO11.slice
      clear hown11 hgr11 hR10
      have p11 := (hl11.block pb hs10).trans p10
      have P11 := block_cell p11
      have F11 := block_frozen p11
      have hLd : Hid (((zs.take zs.length).drop k).length = zs.length - k) := by show _ = _; simp; try omega
      rw [hLd.out] at hrun11 hO11
      have ikn : (k : Int) ≤ zs.length := by omega
      have inc : zs.length ≤ cap := by omega
      have inc2 : (zs.length : Int) ≤ cap := by omega
      go_region_law (refine step_run rfl (.tmp 99) (.tmp 103) 24 rfl _ _ rfl rfl _ W11 hrun11 ?_)
      clear hrun11 P10 P11 F11
      generalize (if cap = k then some (⟨b, off, none⟩ : Addr) else some ⟨b, off + k, none⟩) = adk at *
      have p12 : (W11.setCell ⟨pb, 8, none⟩ (.slice a11 (zs.length - k) cap11)).heap[pb]? = some (.cells (List.toArray [.int .u8 z1, .int .u16 (wat zs 4), .bool (decide (16384 ≤ wat zs 6)), .int .u8 z8, .int .u8 z9, .int .u32 (wat4 zs 12), .int .u32 (wat4 zs 16), .slice a9 (k - 20) cap9, .slice a11 (zs.length - k) cap11]) 26 (0, 0)) := heap_set1 p11 8 (.slice a11 (zs.length - k) cap11)
      have hE11 : But (fun b => b = pb) W11 (W11.setCell ⟨pb, 8, none⟩ (.slice a11 (zs.length - k) cap11)) := (But.refl (fun b => b = pb) W11).setCell (p := ⟨pb, 8, none⟩) (E := fun b => b = pb) rfl _
      have hO12 := hO11.but hE11 (fun b h e => by omega)
      have hO13 := (hO10.below hl11 (Nat.le_refl _)).but hE11 (fun b h e => by omega)
      have hw12 : Below w.heap.size w _ := (hw10.trans (hl11.mono hw10.size)).setCell (p := ⟨pb, 8, none⟩) (Nat.le_of_lt hq8) (.slice a11 (zs.length - k) cap11)
      have pw12 : Wr w.heap.size 9 26 (W11.setCell ⟨pb, 8, none⟩ (.slice a11 (zs.length - k) cap11)) := by
        obtain ⟨c, h1, h2⟩ := pw10.later hl11
        exact ⟨c, (hE11.block _ (Array.getElem?_eq_some_iff.1 h1).1 (by omega)).trans h1, h2⟩
      generalize W11.setCell ⟨pb, 8, none⟩ (.slice a11 (zs.length - k) cap11) = W12 at *
      clear hO11 p11 hE11 hl11 hw10 pw10 hO10
      have P12 := block_cell p12
      obtain ⟨cur, hcur, hsz⟩ := pw12
      have C12 := block_cell hcur
      have F12 := block_frozen hcur
      go_wp2_with fail
      generalize hV : ((((((((W12.setCell ⟨w.heap.size, 0, none⟩ _).setCell ⟨w.heap.size, 1, none⟩ _).setCell ⟨w.heap.size, 2, none⟩ _).setCell ⟨w.heap.size, 3, none⟩ _).setCell ⟨w.heap.size, 4, none⟩ _).setCell ⟨w.heap.size, 5, none⟩ _).setCell ⟨w.heap.size, 6, none⟩ _).setCell ⟨w.heap.size, 7, none⟩ _).setCell ⟨w.heap.size, 8, none⟩ _ = V
      have hV9 : V = putRow W12 w.heap.size 0 [.int .u8 z1, .int .u16 (wat zs 4), .bool (decide (16384 ≤ wat zs 6)), .int .u8 z8, .int .u8 z9, .int .u32 (wat4 zs 12), .int .u32 (wat4 zs 16), .slice a9 (k - 20) cap9, .slice a11 (zs.length - k) cap11] := hV.symm
      have hb13 : But (fun b => b = w.heap.size) W12 V := by rw [hV9]; exact putRow_but (E := fun b => b = w.heap.size) (n := w.heap.size) rfl _ _ _ _ (But.refl _ _)
      have p13 := putRow_all [.int .u8 z1, .int .u16 (wat zs 4), .bool (decide (16384 ≤ wat zs 6)), .int .u8 z8, .int .u8 z9, .int .u32 (wat4 zs 12), .int .u32 (wat4 zs 16), .slice a9 (k - 20) cap9, .slice a11 (zs.length - k) cap11] hcur (by simpa using hsz)
      rw [← hV9] at p13
      have hd : decide (16384 ≤ wat zs 6 % 32768) = decide (16384 ≤ wat zs 6) := by rw [Int.emod_eq_of_lt (by omega) (by omega)]
      have hpk : pkt zs (.slice a9 (k - 20) cap9) (.slice a11 (zs.length - k) cap11) = .agg (List.toArray [.int .u8 z1, .int .u16 (wat zs 4), .bool (decide (16384 ≤ wat zs 6)), .int .u8 z8, .int .u8 z9, .int .u32 (wat4 zs 12), .int .u32 (wat4 zs 16), .slice a9 (k - 20) cap9, .slice a11 (zs.length - k) cap11]) := by unfold pkt; rw [G1.out, G8.out, G9.out, hd]
      refine bodyPost_ret (v := .tuple #[pkt zs (.slice a9 (k - 20) cap9) (.slice a11 (zs.length - k) cap11), .int .i64 0]) (by rw [hpk]; exact res_rread _ w.heap.size 0 _ _ _ _ _ _ _ _ _ V rfl rfl p13) rfl ⟨hw12.trans (hb13.below hw12.size (fun j h e => by omega)), .inr ⟨HR.out, _, _, rfl, ?_, ?_⟩⟩
      · rw [HK.out, Int.toNat_natCast]
        exact (hO13.but hb13 (fun b h e => by omega)).mono (by omega)
      · rw [HK.out, HN.out, Int.toNat_natCast, Int.toNat_natCast]
        exact (hO12.but hb13 (fun b h e => by omega)).mono (by omega)

    · go_wp2_with fail
      refine (rgood_any _ (zs.take k) (hB.take _) (by simp; omega) w2 (((hI.take k (by omega)).below (hb1.trans (hl2.mono (by omega)))).mono (by omega))).mono ?_
      rintro e w3 ⟨rfl, hl3⟩
      have hL3 : Later _ w3 := hl2.trans hl3
      have z3 := hL3.size
      cases hg : (Mt.cks (zs.take k) == 0)
      · have hc5 : chk zs = 5 := by unfold chk; rw [HK.out, Int.toNat_natCast, if_pos (by simpa using hg)]
        have HR : Hid (rde true zs = 5) := by show _ = _; unfold rde; rw [hm0.out, if_neg (by simp), if_neg (by simp [ral]; omega), hc5]; rfl
        clear hc5
        have pk := ((hL3).block w.heap.size (by omega)).trans p1
        have Pk := block_cell pk
        have Fk := block_frozen pk
        go_wp2_with fail
        clear Pk Fk
        generalize hV : ((((((((w3.setCell ⟨w.heap.size, 0, none⟩ _).setCell ⟨w.heap.size, 1, none⟩ _).setCell ⟨w.heap.size, 2, none⟩ _).setCell ⟨w.heap.size, 3, none⟩ _).setCell ⟨w.heap.size, 4, none⟩ _).setCell ⟨w.heap.size, 5, none⟩ _).setCell ⟨w.heap.size, 6, none⟩ _).setCell ⟨w.heap.size, 7, none⟩ _).setCell ⟨w.heap.size, 8, none⟩ _ = V
        have hV9 : V = putRow w3 w.heap.size 0 zc := hV.symm
        have hb8 : But (fun b => b = w.heap.size) w3 V := by rw [hV9]; exact putRow_but (E := fun b => b = w.heap.size) (n := w.heap.size) rfl _ _ _ _ (But.refl _ _)
        have p8 := putRow_all zc pk rfl
        rw [← hV9] at p8
        exact rexit _ w.heap.size 5 _ rfl rfl p8 ⟨(hb1.trans ((hL3).mono (by omega))).trans (hb8.below (Nat.le_trans (by omega) (hL3).size) (fun j h e => by omega)), .inl (by rw [HR.out]; exact ⟨by omega, rfl⟩)⟩

      have hg0 : Mt.cks (zs.take k) = 0 := by simpa using hg
      have Hg := hide hg0
      clear hg hg0
      go_wp2_with fail
      refine (rget16_rd _ zs hB 6 (by omega) hl w3 (hI.below (hb1.trans (hL3.mono (by omega))))).mono ?_
      rintro e w4 ⟨rfl, hl4'⟩
      have hL4 : Later _ w4 := hL3.trans hl4'
      have z4 := hL4.size
      have hff := wat_bd hB 6
      by_cases h7 : wat zs 6 % 16384 ≠ 0
      · have t7 : (wat zs 6 % 16384 != 0) = true := by simpa using h7
        have hc5 : chk zs = 7 := by unfold chk; rw [HK.out, Int.toNat_natCast, if_neg (by simp [Hg.out]), if_pos h7]
        have HR : Hid (rde true zs = 7) := by show _ = _; unfold rde; rw [hm0.out, if_neg (by simp), if_neg (by simp [ral]; omega), hc5]; rfl
        clear hc5
        have pk := ((hL4).block w.heap.size (by omega)).trans p1
        have Pk := block_cell pk
        have Fk := block_frozen pk
        go_wp2_with fail
        clear Pk Fk
        generalize hV : ((((((((w4.setCell ⟨w.heap.size, 0, none⟩ _).setCell ⟨w.heap.size, 1, none⟩ _).setCell ⟨w.heap.size, 2, none⟩ _).setCell ⟨w.heap.size, 3, none⟩ _).setCell ⟨w.heap.size, 4, none⟩ _).setCell ⟨w.heap.size, 5, none⟩ _).setCell ⟨w.heap.size, 6, none⟩ _).setCell ⟨w.heap.size, 7, none⟩ _).setCell ⟨w.heap.size, 8, none⟩ _ = V
        have hV9 : V = putRow w4 w.heap.size 0 zc := hV.symm
        have hb8 : But (fun b => b = w.heap.size) w4 V := by rw [hV9]; exact putRow_but (E := fun b => b = w.heap.size) (n := w.heap.size) rfl _ _ _ _ (But.refl _ _)
        have p8 := putRow_all zc pk rfl
        rw [← hV9] at p8
        exact rexit _ w.heap.size 7 _ rfl rfl p8 ⟨(hb1.trans ((hL4).mono (by omega))).trans (hb8.below (Nat.le_trans (by omega) (hL4).size) (fun j h e => by omega)), .inl (by rw [HR.out]; exact ⟨by omega, rfl⟩)⟩

      have t7 : (wat zs 6 % 16384 != 0) = false := by simpa using h7
      by_cases h8 : 32768 ≤ wat zs 6
      · have hc5 : chk zs = 4 := by unfold chk; rw [HK.out, Int.toNat_natCast, if_neg (by simp [Hg.out]), if_neg h7, if_pos h8]
        have HR : Hid (rde true zs = 4) := by show _ = _; unfold rde; rw [hm0.out, if_neg (by simp), if_neg (by simp [ral]; omega), hc5]; rfl
        clear hc5
        have pk := ((hL4).block w.heap.size (by omega)).trans p1
        have Pk := block_cell pk
        have Fk := block_frozen pk
        go_wp2_with fail
        clear Pk Fk
        generalize hV : ((((((((w4.setCell ⟨w.heap.size, 0, none⟩ _).setCell ⟨w.heap.size, 1, none⟩ _).setCell ⟨w.heap.size, 2, none⟩ _).setCell ⟨w.heap.size, 3, none⟩ _).setCell ⟨w.heap.size, 4, none⟩ _).setCell ⟨w.heap.size, 5, none⟩ _).setCell ⟨w.heap.size, 6, none⟩ _).setCell ⟨w.heap.size, 7, none⟩ _).setCell ⟨w.heap.size, 8, none⟩ _ = V
        have hV9 : V = putRow w4 w.heap.size 0 zc := hV.symm
        have hb8 : But (fun b => b = w.heap.size) w4 V := by rw [hV9]; exact putRow_but (E := fun b => b = w.heap.size) (n := w.heap.size) rfl _ _ _ _ (But.refl _ _)
        have p8 := putRow_all zc pk rfl
        rw [← hV9] at p8
        exact rexit _ w.heap.size 4 _ rfl rfl p8 ⟨(hb1.trans ((hL4).mono (by omega))).trans (hb8.below (Nat.le_trans (by omega) (hL4).size) (fun j h e => by omega)), .inl (by rw [HR.out]; exact ⟨by omega, rfl⟩)⟩

      have hc0 : Hid (chk zs = 0) := by show _ = _; unfold chk; rw [HK.out, Int.toNat_natCast, if_neg (by simp [Hg.out]), if_neg h7, if_neg h8]

      by_cases h9 : wat zs 2 - (k : Int) < 8
      · have HR : Hid (rde true zs = 3) := by show _ = _; unfold rde; rw [hm0.out, if_neg (by simp), if_neg (by simp [ral]; omega), hc0.out, if_neg (by simp), HK.out, if_pos ⟨rfl, by simp [ral]; omega⟩]
        have pk := ((hL4).block w.heap.size (by omega)).trans p1
        have Pk := block_cell pk
        have Fk := block_frozen pk
        go_wp2_with fail
        clear Pk Fk
        generalize hV : ((((((((w4.setCell ⟨w.heap.size, 0, none⟩ _).setCell ⟨w.heap.size, 1, none⟩ _).setCell ⟨w.heap.size, 2, none⟩ _).setCell ⟨w.heap.size, 3, none⟩ _).setCell ⟨w.heap.size, 4, none⟩ _).setCell ⟨w.heap.size, 5, none⟩ _).setCell ⟨w.heap.size, 6, none⟩ _).setCell ⟨w.heap.size, 7, none⟩ _).setCell ⟨w.heap.size, 8, none⟩ _ = V
        have hV9 : V = putRow w4 w.heap.size 0 zc := hV.symm
        have hb8 : But (fun b => b = w.heap.size) w4 V := by rw [hV9]; exact putRow_but (E := fun b => b = w.heap.size) (n := w.heap.size) rfl _ _ _ _ (But.refl _ _)
        have p8 := putRow_all zc pk rfl
        rw [← hV9] at p8
        exact rexit _ w.heap.size 3 _ rfl rfl p8 ⟨(hb1.trans ((hL4).mono (by omega))).trans (hb8.below (Nat.le_trans (by omega) (hL4).size) (fun j h e => by omega)), .inl (by rw [HR.out]; exact ⟨by omega, rfl⟩)⟩

      have HR : Hid (rde true zs = 0) := by show _ = _; unfold rde; rw [hm0.out, if_neg (by simp), if_neg (by simp [ral]; omega), hc0.out, if_neg (by simp), HK.out, if_neg (by simp [ral]; omega)]

      go_wp2_with fail
      obtain ⟨n, hn⟩ := Int.eq_ofNat_of_zero_le (show 0 ≤ wat zs 2 by omega)
      have hkn : 20 ≤ k ∧ k ≤ n ∧ n ≤ zs.length := by omega
      have HN : Hid (ral true zs = n) := by show _ = _; simp [ral]; omega
      have Hn := hide hn
      rw [hn]
      clear hn

      have d1 := hc 1 (by omega)
      have d8 := hc 8 (by omega)
      have d9 := hc 9 (by omega)
      have hbw4 := hb1.trans (hL4.mono (by omega))
      generalize gz1 : zs[1]?.getD 0 = z1 at *
      generalize gz8 : zs[8]?.getD 0 = z8 at *
      generalize gz9 : zs[9]?.getD 0 = z9 at *
      have G1 := hide gz1
      have G8 := hide gz8
      have G9 := hide gz9
      clear gz1 gz8 gz9
      have i1 : (1 : Int) < zs.length := by omega
      have i8 : (8 : Int) < zs.length := by omega
      have i9 : (9 : Int) < zs.length := by omega
      refine anyR_begin (R := KI w4.heap.size 26 9 (List.toArray [.int .u8 z1, .int .u16 (wat zs 4), .bool (decide (16384 ≤ wat zs 6)), .int .u8 z8, .int .u8 z9, .int .u32 (wat4 zs 12), .int .u32 (wat4 zs 16), .slice none 0 0, .slice none 0 0])) (KI.pre _ _ _ _) (fun w => KI.of (Later.drew w)) 20 rfl (by kernel_rfl) (fun W5 hW5 => ?_)
      have hbel : ∀ w1, KI w4.heap.size 26 9 (List.toArray [.int .u8 z1, .int .u16 (wat zs 4), .bool (decide (16384 ≤ wat zs 6)), .int .u8 z8, .int .u8 z9, .int .u32 (wat4 zs 12), .int .u32 (wat4 zs 16), .slice none 0 0, .slice none 0 0]) W5 w1 → Below w.heap.size w w1 := fun w1 h => hbw4.trans (((hW5.trans h).1.below (Nat.le_refl _) (fun k hk e => by omega)).mono (by omega))
      have hr1 : ∀ w1, KI w4.heap.size 26 9 (List.toArray [.int .u8 z1, .int .u16 (wat zs 4), .bool (decide (16384 ≤ wat zs 6)), .int .u8 z8, .int .u8 z9, .int .u32 (wat4 zs 12), .int .u32 (wat4 zs 16), .slice none 0 0, .slice none 0 0]) W5 w1 → Rd w.heap.size w1 (.slice (some ⟨b, off, none⟩) zs.length cap) zs := fun w1 h => hI.below (hbel w1 h)
      have e1 : ∀ w1, KI w4.heap.size 26 9 (List.toArray [.int .u8 z1, .int .u16 (wat zs 4), .bool (decide (16384 ≤ wat zs 6)), .int .u8 z8, .int .u8 z9, .int .u32 (wat4 zs 12), .int .u32 (wat4 zs 16), .slice none 0 0, .slice none 0 0]) W5 w1 → w1.cell? ⟨b, off + 1, none⟩ = some (.int .u8 z1) := fun w1 h => ((hbel w1 h).cell (p := ⟨b, off + 1, none⟩) hb).trans d1
      have e8 : ∀ w1, KI w4.heap.size 26 9 (List.toArray [.int .u8 z1, .int .u16 (wat zs 4), .bool (decide (16384 ≤ wat zs 6)), .int .u8 z8, .int .u8 z9, .int .u32 (wat4 zs 12), .int .u32 (wat4 zs 16), .slice none 0 0, .slice none 0 0]) W5 w1 → w1.cell? ⟨b, off + 8, none⟩ = some (.int .u8 z8) := fun w1 h => ((hbel w1 h).cell (p := ⟨b, off + 8, none⟩) hb).trans d8
      have e9 : ∀ w1, KI w4.heap.size 26 9 (List.toArray [.int .u8 z1, .int .u16 (wat zs 4), .bool (decide (16384 ≤ wat zs 6)), .int .u8 z8, .int .u8 z9, .int .u32 (wat4 zs 12), .int .u32 (wat4 zs 16), .slice none 0 0, .slice none 0 0]) W5 w1 → w1.cell? ⟨b, off + 9, none⟩ = some (.int .u8 z9) := fun w1 h => ((hbel w1 h).cell (p := ⟨b, off + 9, none⟩) hb).trans d9
      clear d1 d8 d9
      refine anyR_val (KI.pre _ _ _ _) 0 rfl (by kernel_rfl) (by kernel_rfl) (by kernel_rfl) (fun _ _ _ _ h => h) rfl ?_; apply Exists.intro; refine ⟨fun w1 hw1 => ?_, ?_⟩; (· (go_simp; rfl)); simp only [Act.put, List.setIfInBounds_toArray, List.set_cons_zero, List.set_cons_succ]
      refine anyR_val (KI.pre _ _ _ _) 1 rfl (by kernel_rfl) (by kernel_rfl) (by kernel_rfl) (fun _ _ _ _ h => h) rfl ?_; apply Exists.intro; refine ⟨fun w1 hw1 => ?_, ?_⟩; (· (go_simp; rfl)); simp only [Act.put, List.setIfInBounds_toArray, List.set_cons_zero, List.set_cons_succ]
      refine anyR_val (KI.pre _ _ _ _) 2 rfl (by kernel_rfl) (by kernel_rfl) (by kernel_rfl) (fun _ _ _ _ h => h) rfl ?_; apply Exists.intro; refine ⟨fun w1 hw1 => ?_, ?_⟩; (· (go_simp; rfl)); simp only [Act.put, List.setIfInBounds_toArray, List.set_cons_zero, List.set_cons_succ]
      refine anyR_val (KI.pre _ _ _ _) 3 rfl (by kernel_rfl) (by kernel_rfl) (by kernel_rfl) (fun _ _ _ _ h => h) rfl ?_; apply Exists.intro; refine ⟨fun w1 hw1 => ?_, ?_⟩; (· (go_simp; rfl)); simp only [Act.put, List.setIfInBounds_toArray, List.set_cons_zero, List.set_cons_succ]
      refine anyR_take (KI.pre _ _ _ _) 4 (.int .u16 (wat zs 4)) rfl (by kernel_rfl) (by kernel_rfl) (by kernel_rfl) (fun _ _ _ h => h) rfl (fun w1 hw1 => goes_call 65 #[.slice (some ⟨b, off, none⟩) zs.length cap, .int .i64 4] (by go_simp) ?_) ?_
      · exact (rget16_rd _ zs hB 4 (by omega) hl w1 (hr1 w1 hw1)).mono fun e w' ⟨he, hw⟩ => ⟨he, KI.of hw⟩
      simp only [Act.put, List.setIfInBounds_toArray, List.set_cons_zero, List.set_cons_succ]
      refine anyR_val (KI.pre _ _ _ _) 5 rfl (by kernel_rfl) (by kernel_rfl) (by kernel_rfl) (fun _ _ _ _ h => h) rfl ?_; apply Exists.intro; refine ⟨fun w1 hw1 => ?_, ?_⟩; (· (go_simp; rfl)); simp only [Act.put, List.setIfInBounds_toArray, List.set_cons_zero, List.set_cons_succ]
      refine anyR_val (KI.pre _ _ _ _) 6 rfl (by kernel_rfl) (by kernel_rfl) (by kernel_rfl) (fun _ _ _ _ h => h) rfl ?_; apply Exists.intro; refine ⟨fun w1 hw1 => ?_, ?_⟩; (· (go_simp; rfl)); simp only [Act.put, List.setIfInBounds_toArray, List.set_cons_zero, List.set_cons_succ]
      refine anyR_val (KI.pre _ _ _ _) 7 rfl (by kernel_rfl) (by kernel_rfl) (by kernel_rfl) (fun _ _ _ _ h => h) rfl ?_; apply Exists.intro; refine ⟨fun w1 hw1 => ?_, ?_⟩; (· (go_simp; rfl)); simp only [Act.put, List.setIfInBounds_toArray, List.set_cons_zero, List.set_cons_succ]
      refine anyR_val (KI.pre _ _ _ _) 8 rfl (by kernel_rfl) (by kernel_rfl) (by kernel_rfl) (fun _ _ _ _ h => h) rfl ?_; apply Exists.intro; refine ⟨fun w1 hw1 => ?_, ?_⟩; (· (go_simp; rfl)); simp only [Act.put, List.setIfInBounds_toArray, List.set_cons_zero, List.set_cons_succ]
      refine anyR_val (KI.pre _ _ _ _) 9 rfl (by kernel_rfl) (by kernel_rfl) (by kernel_rfl) (fun _ _ _ _ h => h) rfl ?_; apply Exists.intro; refine ⟨fun w1 hw1 => ?_, ?_⟩; (· (go_simp; rfl)); simp only [Act.put, List.setIfInBounds_toArray, List.set_cons_zero, List.set_cons_succ]
      refine anyR_val (KI.pre _ _ _ _) 10 rfl (by kernel_rfl) (by kernel_rfl) (by kernel_rfl) (fun _ _ _ _ h => h) rfl ?_; apply Exists.intro; refine ⟨fun w1 hw1 => ?_, ?_⟩; (· (go_simp; rfl)); simp only [Act.put, List.setIfInBounds_toArray, List.set_cons_zero, List.set_cons_succ]
      refine anyR_val (KI.pre _ _ _ _) 11 rfl (by kernel_rfl) (by kernel_rfl) (by kernel_rfl) (fun _ _ _ _ h => h) rfl ?_; apply Exists.intro; refine ⟨fun w1 hw1 => ?_, ?_⟩; (· (go_simp; rfl)); simp only [Act.put, List.setIfInBounds_toArray, List.set_cons_zero, List.set_cons_succ]
      refine anyR_val (KI.pre _ _ _ _) 12 rfl (by kernel_rfl) (by kernel_rfl) (by kernel_rfl) (fun _ _ _ _ h => h) rfl ?_; apply Exists.intro; refine ⟨fun w1 hw1 => ?_, ?_⟩; (· (go_simp; rfl)); simp only [Act.put, List.setIfInBounds_toArray, List.set_cons_zero, List.set_cons_succ]
      refine anyR_val (KI.pre _ _ _ _) 13 rfl (by kernel_rfl) (by kernel_rfl) (by kernel_rfl) (fun _ _ _ _ h => h) rfl ?_; apply Exists.intro; refine ⟨fun w1 hw1 => ?_, ?_⟩; (· (go_simp; rfl)); simp only [Act.put, List.setIfInBounds_toArray, List.set_cons_zero, List.set_cons_succ]
      refine anyR_take (KI.pre _ _ _ _) 14 (.int .u32 (wat4 zs 12)) rfl (by kernel_rfl) (by kernel_rfl) (by kernel_rfl) (fun _ _ _ h => h) rfl (fun w1 hw1 => goes_call 32 #[.slice (some ⟨b, off, none⟩) zs.length cap, .int .i64 12] (by go_simp) ?_) ?_
      · exact (rget32_rd _ zs hB 12 (by omega) hl w1 (hr1 w1 hw1)).mono fun e w' ⟨he, hw⟩ => ⟨he, KI.of hw⟩
      simp only [Act.put, List.setIfInBounds_toArray, List.set_cons_zero, List.set_cons_succ]
      refine anyR_val (KI.pre _ _ _ _) 15 rfl (by kernel_rfl) (by kernel_rfl) (by kernel_rfl) (fun _ _ _ _ h => h) rfl ?_; apply Exists.intro; refine ⟨fun w1 hw1 => ?_, ?_⟩; (· (go_simp; rfl)); simp only [Act.put, List.setIfInBounds_toArray, List.set_cons_zero, List.set_cons_succ]
      refine anyR_take (KI.pre _ _ _ _) 16 (.int .u32 (wat4 zs 16)) rfl (by kernel_rfl) (by kernel_rfl) (by kernel_rfl) (fun _ _ _ h => h) rfl (fun w1 hw1 => goes_call 32 #[.slice (some ⟨b, off, none⟩) zs.length cap, .int .i64 16] (by go_simp) ?_) ?_
      · exact (rget32_rd _ zs hB 16 (by omega) hl w1 (hr1 w1 hw1)).mono fun e w' ⟨he, hw⟩ => ⟨he, KI.of hw⟩
      simp only [Act.put, List.setIfInBounds_toArray, List.set_cons_zero, List.set_cons_succ]
      refine anyR_val (KI.pre _ _ _ _) 17 rfl (by kernel_rfl) (by kernel_rfl) (by kernel_rfl) (fun _ _ _ _ h => h) rfl ?_; apply Exists.intro; refine ⟨fun w1 hw1 => ?_, ?_⟩; (· (go_simp; rfl)); simp only [Act.put, List.setIfInBounds_toArray, List.set_cons_zero, List.set_cons_succ]

      refine anyR_one 18 rfl (by kernel_rfl) rfl (fun W6 hW6 => ?_)
      have hs6 : w4.heap.size ≤ W6.heap.size := (hW5.trans hW6).1.size
      unfold Oper.wp
      go_simp
      refine ⟨KI.of ((Below.refl _ _).alloc (Nat.le_refl _) _), ?_⟩
      refine anyR_one 19 rfl (by kernel_rfl) rfl (fun W7 hW7 => ?_)
      have hwr : Wr W6.heap.size 9 26 W7 := hW7.2.1 _ ⟨_, heap_alloc_new W6 _, rfl⟩
      have hst := KI.store (n₁ := w4.heap.size) [.int .u8 z1, .int .u16 (wat zs 4), .bool (decide (16384 ≤ wat zs 6)), .int .u8 z8, .int .u8 z9, .int .u32 (wat4 zs 12), .int .u32 (wat4 zs 16), .slice none 0 0, .slice none 0 0] hs6 hwr rfl
      obtain ⟨cur, hcur, hsz⟩ := hwr
      have k7 := block_cell hcur
      have f7 := block_frozen hcur
      have HS := hide hst
      clear hst
      unfold Oper.wp
      go_simp
      generalize hV : ((((((((W7.setCell ⟨W6.heap.size, 0, none⟩ _).setCell ⟨W6.heap.size, 1, none⟩ _).setCell ⟨W6.heap.size, 2, none⟩ _).setCell ⟨W6.heap.size, 3, none⟩ _).setCell ⟨W6.heap.size, 4, none⟩ _).setCell ⟨W6.heap.size, 5, none⟩ _).setCell ⟨W6.heap.size, 6, none⟩ _).setCell ⟨W6.heap.size, 7, none⟩ _).setCell ⟨W6.heap.size, 8, none⟩ _ = V
      have hV9 : V = putRow W7 W6.heap.size 0 [.int .u8 z1, .int .u16 (wat zs 4), .bool (decide (16384 ≤ wat zs 6)), .int .u8 z8, .int .u8 z9, .int .u32 (wat4 zs 12), .int .u32 (wat4 zs 16), .slice none 0 0, .slice none 0 0] := hV.symm
      have hst := HS.out
      rw [← hV9] at hst
      clear hV hV9 HS k7 f7
      refine ⟨hst.1, anyR_done (by kernel_rfl) (fun W8 hW8 => ?_)⟩
      have p8 := hW8.2.2 _ hst.2
      have hwW8 : Below w.heap.size w W8 := hbel W8 (((hW6.trans (KI.of ((Below.refl _ _).alloc (Nat.le_refl _) _))).trans hW7).trans (hst.1.trans hW8))
      have hq8 : w.heap.size < W6.heap.size := by omega
      have pw8 : Wr w.heap.size 9 26 W8 := hW8.2.1 _ (hst.1.2.1 _ (hW7.2.1 _ ((KI.of ((Below.refl W6.heap.size W6).alloc (Nat.le_refl _) _) : KI w4.heap.size 26 9 (List.toArray [.int .u8 z1, .int .u16 (wat zs 4), .bool (decide (16384 ≤ wat zs 6)), .int .u8 z8, .int .u8 z9, .int .u32 (wat4 zs 12), .int .u32 (wat4 zs 16), .slice none 0 0, .slice none 0 0]) W6 _).2.1 _ (hW6.2.1 _ (hW5.2.1 _ ⟨_, (hL4.block w.heap.size (by omega)).trans p1, rfl⟩)))))
      generalize W6.heap.size = pb at *
      clear hbel hr1 e1 e8 e9 hst hW7 hW6 hs6 hcur hsz hW8
      have hs8 := (Array.getElem?_eq_some_iff.1 p8).1
      have P8 := block_cell p8
      go_wp2_with fail
      have hR8 := (((hI.below hwW8).take k (by omega)).cutAt 20 (by omega)).drew 1
      obtain ⟨v9, W9, hrun9, hown9, hgr9⟩ := run_app (P := Tryz.prog) W8.drew 24 24 5 (pb + 1) i0 Tryz.underlying24 hi hz0 hz1 hz2 (.slice none 0 0) [] (World.ownsRow_nil _ _ _ _) w.heap.size _ ((zs.take k).drop 20) hR8 (by simp; omega) hs8
      have hl9 : Later W8 W9 := Later.trans (Later.drew W8) ((Below.refl _ W8.drew).grown hgr9 (Nat.le_refl _) (fun _ e => by cases e))
      have hO9 := Ow.of_row hown9
      rw [List.nil_append] at hO9
      obtain ⟨a9, cap9, rfl, hq9, hm9⟩ := hO9.slice
      clear hown9 hgr9 hR8
      have p9 := (hl9.block pb hs8).trans p8
      have P9 := block_cell p9
      have F9 := block_frozen p9
      have hLo : Hid (((zs.take k).drop 20).length = k - 20) := by show _ = _; simp; omega
      rw [hLo.out] at hrun9 hO9
      have i20 : (20 : Int) ≤ k := by omega
      go_region_law (refine step_run rfl (.tmp 92) (.tmp 95) 24 rfl _ _ rfl rfl _ W9 hrun9 ?_)
      clear hrun9 P8 P9 F9
      generalize (if cap = 20 then some (⟨b, off, none⟩ : Addr) else some ⟨b, off + 20, none⟩) = ad20 at *
      have p10 : (W9.setCell ⟨pb, 7, none⟩ (.slice a9 (k - 20) cap9)).heap[pb]? = some (.cells (List.toArray [.int .u8 z1, .int .u16 (wat zs 4), .bool (decide (16384 ≤ wat zs 6)), .int .u8 z8, .int .u8 z9, .int .u32 (wat4 zs 12), .int .u32 (wat4 zs 16), .slice a9 (k - 20) cap9, .slice none 0 0]) 26 (0, 0)) := heap_set1 p9 7 (.slice a9 (k - 20) cap9)
      have hE9 : But (fun b => b = pb) W9 (W9.setCell ⟨pb, 7, none⟩ (.slice a9 (k - 20) cap9)) := (But.refl (fun b => b = pb) W9).setCell (p := ⟨pb, 7, none⟩) (E := fun b => b = pb) rfl _
      have hO10 := hO9.but hE9 (fun b h e => by omega)
      have hw10 : Below w.heap.size w _ := (hwW8.trans (hl9.mono hwW8.size)).setCell (p := ⟨pb, 7, none⟩) (Nat.le_of_lt hq8) (.slice a9 (k - 20) cap9)
      have pw10 : Wr w.heap.size 9 26 (W9.setCell ⟨pb, 7, none⟩ (.slice a9 (k - 20) cap9)) := by
        obtain ⟨c, h1, h2⟩ := pw8.later hl9
        exact ⟨c, (hE9.block _ (Array.getElem?_eq_some_iff.1 h1).1 (by omega)).trans h1, h2⟩
      generalize W9.setCell ⟨pb, 7, none⟩ (.slice a9 (k - 20) cap9) = W10 at *
      clear hO9 p9 hE9 hl9 hwW8 pw8
      have hs10 := (Array.getElem?_eq_some_iff.1 p10).1
      have P10 := block_cell p10
      go_wp2_with fail
      have hR10 := (((hI.below hw10).take n (by omega)).cutAt k (by omega)).drew 1
      obtain ⟨v11, W11, hrun11, hown11, hgr11⟩ := run_app (P := Tryz.prog) W10.drew 24 24 5 (pb + 1) i0 Tryz.underlying24 hi hz0 hz1 hz2 (.slice none 0 0) [] (World.ownsRow_nil _ _ _ _) w.heap.size _ ((zs.take n).drop k) hR10 (by simp; omega) hs10
      have hl11 : Later W10 W11 := Later.trans (Later.drew W10) ((Below.refl _ W10.drew).grown hgr11 (Nat.le_refl _) (fun _ e => by cases e))
      have hO11 := Ow.of_row hown11
      rw [List.nil_append] at hO11
      obtain ⟨a11, cap11, rfl, hq11, hm11⟩ := hO11.slice
      clear hown11 hgr11 hR10
      have p11 := (hl11.block pb hs10).trans p10
      have P11 := block_cell p11
      have F11 := block_frozen p11
      have hLd : Hid (((zs.take n).drop k).length = n - k) := by show _ = _; simp; try omega
      rw [hLd.out] at hrun11 hO11
      have ikn : (k : Int) ≤ n := by omega
      have inc : n ≤ cap := by omega
      have inc2 : (n : Int) ≤ cap := by omega
      go_region_law (refine step_run rfl (.tmp 99) (.tmp 103) 24 rfl _ _ rfl rfl _ W11 hrun11 ?_)
      clear hrun11 P10 P11 F11
      generalize (if cap = k then some (⟨b, off, none⟩ : Addr) else some ⟨b, off + k, none⟩) = adk at *
      have p12 : (W11.setCell ⟨pb, 8, none⟩ (.slice a11 (n - k) cap11)).heap[pb]? = some (.cells (List.toArray [.int .u8 z1, .int .u16 (wat zs 4), .bool (decide (16384 ≤ wat zs 6)), .int .u8 z8, .int .u8 z9, .int .u32 (wat4 zs 12), .int .u32 (wat4 zs 16), .slice a9 (k - 20) cap9, .slice a11 (n - k) cap11]) 26 (0, 0)) := heap_set1 p11 8 (.slice a11 (n - k) cap11)
      have hE11 : But (fun b => b = pb) W11 (W11.setCell ⟨pb, 8, none⟩ (.slice a11 (n - k) cap11)) := (But.refl (fun b => b = pb) W11).setCell (p := ⟨pb, 8, none⟩) (E := fun b => b = pb) rfl _
      have hO12 := hO11.but hE11 (fun b h e => by omega)
      have hO13 := (hO10.below hl11 (Nat.le_refl _)).but hE11 (fun b h e => by omega)
      have hw12 : Below w.heap.size w _ := (hw10.trans (hl11.mono hw10.size)).setCell (p := ⟨pb, 8, none⟩) (Nat.le_of_lt hq8) (.slice a11 (n - k) cap11)
      have pw12 : Wr w.heap.size 9 26 (W11.setCell ⟨pb, 8, none⟩ (.slice a11 (n - k) cap11)) := by
        obtain ⟨c, h1, h2⟩ := pw10.later hl11
        exact ⟨c, (hE11.block _ (Array.getElem?_eq_some_iff.1 h1).1 (by omega)).trans h1, h2⟩
      generalize W11.setCell ⟨pb, 8, none⟩ (.slice a11 (n - k) cap11) = W12 at *
      clear hO11 p11 hE11 hl11 hw10 pw10 hO10
      have P12 := block_cell p12
      obtain ⟨cur, hcur, hsz⟩ := pw12
      have C12 := block_cell hcur
      have F12 := block_frozen hcur
      go_wp2_with fail
      generalize hV : ((((((((W12.setCell ⟨w.heap.size, 0, none⟩ _).setCell ⟨w.heap.size, 1, none⟩ _).setCell ⟨w.heap.size, 2, none⟩ _).setCell ⟨w.heap.size, 3, none⟩ _).setCell ⟨w.heap.size, 4, none⟩ _).setCell ⟨w.heap.size, 5, none⟩ _).setCell ⟨w.heap.size, 6, none⟩ _).setCell ⟨w.heap.size, 7, none⟩ _).setCell ⟨w.heap.size, 8, none⟩ _ = V
      have hV9 : V = putRow W12 w.heap.size 0 [.int .u8 z1, .int .u16 (wat zs 4), .bool (decide (16384 ≤ wat zs 6)), .int .u8 z8, .int .u8 z9, .int .u32 (wat4 zs 12), .int .u32 (wat4 zs 16), .slice a9 (k - 20) cap9, .slice a11 (n - k) cap11] := hV.symm
      have hb13 : But (fun b => b = w.heap.size) W12 V := by rw [hV9]; exact putRow_but (E := fun b => b = w.heap.size) (n := w.heap.size) rfl _ _ _ _ (But.refl _ _)
      have p13 := putRow_all [.int .u8 z1, .int .u16 (wat zs 4), .bool (decide (16384 ≤ wat zs 6)), .int .u8 z8, .int .u8 z9, .int .u32 (wat4 zs 12), .int .u32 (wat4 zs 16), .slice a9 (k - 20) cap9, .slice a11 (n - k) cap11] hcur (by simpa using hsz)
      rw [← hV9] at p13
      have hd : decide (16384 ≤ wat zs 6 % 32768) = decide (16384 ≤ wat zs 6) := by rw [Int.emod_eq_of_lt (by omega) (by omega)]
      have hpk : pkt zs (.slice a9 (k - 20) cap9) (.slice a11 (n - k) cap11) = .agg (List.toArray [.int .u8 z1, .int .u16 (wat zs 4), .bool (decide (16384 ≤ wat zs 6)), .int .u8 z8, .int .u8 z9, .int .u32 (wat4 zs 12), .int .u32 (wat4 zs 16), .slice a9 (k - 20) cap9, .slice a11 (n - k) cap11]) := by unfold pkt; rw [G1.out, G8.out, G9.out, hd]
      refine bodyPost_ret (v := .tuple #[pkt zs (.slice a9 (k - 20) cap9) (.slice a11 (n - k) cap11), .int .i64 0]) (by rw [hpk]; exact res_rread _ w.heap.size 0 _ _ _ _ _ _ _ _ _ V rfl rfl p13) rfl ⟨hw12.trans (hb13.below hw12.size (fun j h e => by omega)), .inr ⟨HR.out, _, _, rfl, ?_, ?_⟩⟩
      · rw [HK.out, Int.toNat_natCast]
        exact (hO13.but hb13 (fun b h e => by omega)).mono (by omega)
      · rw [HK.out, HN.out, Int.toNat_natCast, Int.toNat_natCast]
        exact (hO12.but hb13 (fun b h e => by omega)).mono (by omega)
end Go.Proofs.YtdabhbadcbnkhaaGreatDoor

/- The document's Parse and Quote. -/
namespace Go.Proofs.YtdabhbadcbnkhaaGreatDoor
open Go.RowKit Go.Shelf
set_option maxRecDepth 100000
set_option linter.unusedVariables false
set_option linter.unusedSimpArgs false

set_option maxHeartbeats 1000000 in
theorem rquote_any (sv : Value) (zs : List Int) (w : World) (hB : Mt.By zs) (hl : zs.length ≤ 140737488355328) (hI : Rd w.heap.size w sv zs) :
    Calls Tryz.prog 64 #[sv] w fun e w' => Below w.heap.size w w' ∧
      ((rde true zs ≠ 0 ∧ e = .returned (.tuple #[.agg zc.toArray, .int .i64 (rde true zs)])) ∨
       (rde true zs = 0 ∧ ∃ so sd, e = .returned (.tuple #[pkt zs so sd, .int .i64 0]) ∧ Ow w.heap.size w' so ((zs.take (hl4 zs).toNat).drop 20) ∧ Ow w.heap.size w' sd ((zs.take (ral true zs).toNat).drop (hl4 zs).toNat))) := by
  obtain ⟨a, cap, rfl, hl1, hm1⟩ := hI.slice
  have hb1 : Below w.heap.size w (w.alloc (.cells zc.toArray 26)) := (Below.refl _ _).alloc (Nat.le_refl _) _
  have p1 := heap_alloc_new w (.cells zc.toArray 26)
  have H := hide (rread_any true _ zs (w.alloc (.cells zc.toArray 26)) hB hl ((hI.below hb1).mono (by simp)))
  go_enter Tryz.func64, Tryz.ntmps64
  go_wp2_with fail
  refine H.out.mono ?_
  rintro e w2 ⟨hb2, ⟨h, rfl⟩ | ⟨h, so, sd, rfl, hO1, hO2⟩⟩
  · have p2 := (hb2.block w.heap.size (by simp)).trans p1
    have P2 := block_cell p2
    have F2 := block_frozen p2
    go_wp2_with fail
    generalize hV : ((((((((w2.setCell ⟨w.heap.size, 0, none⟩ _).setCell ⟨w.heap.size, 1, none⟩ _).setCell ⟨w.heap.size, 2, none⟩ _).setCell ⟨w.heap.size, 3, none⟩ _).setCell ⟨w.heap.size, 4, none⟩ _).setCell ⟨w.heap.size, 5, none⟩ _).setCell ⟨w.heap.size, 6, none⟩ _).setCell ⟨w.heap.size, 7, none⟩ _).setCell ⟨w.heap.size, 8, none⟩ _ = V
    have hV9 : V = putRow w2 w.heap.size 0 zc := hV.symm
    have hb8 : But (fun b => b = w.heap.size) w2 V := by rw [hV9]; exact putRow_but (E := fun b => b = w.heap.size) (n := w.heap.size) rfl _ _ _ _ (But.refl _ _)
    have p8 := putRow_all zc p2 rfl
    rw [← hV9] at p8
    clear hV hV9 P2 F2 H
    have P8 := block_cell p8
    have hbW := (hb1.trans (hb2.mono (by simp))).trans (hb8.below (by have := hb2.size; simp at this; omega) (fun j h e => by omega))
    exact bodyPost_ret (v := .tuple #[.agg zc.toArray, .int .i64 (rde true zs)]) (by simp [results, Tryz.results64, go_sem, P8]) rfl ⟨hbW, .inl ⟨h, rfl⟩⟩
  · have p2 := (hb2.block w.heap.size (by simp)).trans p1
    have P2 := block_cell p2
    have F2 := block_frozen p2
    obtain ⟨aso, cso, rfl, _, _⟩ := hO1.slice
    obtain ⟨asd, csd, rfl, _, _⟩ := hO2.slice
    generalize hL1 : ((zs.take (hl4 zs).toNat).drop 20).length = lo at *
    generalize hL2 : ((zs.take (ral true zs).toNat).drop (hl4 zs).toNat).length = ld at *
    have HL1 := hide hL1
    have HL2 := hide hL2
    clear hL1 hL2
    unfold pkt
    go_wp2_with fail
    generalize hV : ((((((((w2.setCell ⟨w.heap.size, 0, none⟩ _).setCell ⟨w.heap.size, 1, none⟩ _).setCell ⟨w.heap.size, 2, none⟩ _).setCell ⟨w.heap.size, 3, none⟩ _).setCell ⟨w.heap.size, 4, none⟩ _).setCell ⟨w.heap.size, 5, none⟩ _).setCell ⟨w.heap.size, 6, none⟩ _).setCell ⟨w.heap.size, 7, none⟩ _).setCell ⟨w.heap.size, 8, none⟩ _ = V
    have hV9 : V = putRow w2 w.heap.size 0 [.int .u8 (zs[1]?.getD 0), .int .u16 (wat zs 4), .bool (decide (16384 ≤ wat zs 6 % 32768)), .int .u8 (zs[8]?.getD 0), .int .u8 (zs[9]?.getD 0), .int .u32 (wat4 zs 12), .int .u32 (wat4 zs 16), .slice aso lo cso, .slice asd ld csd] := hV.symm
    have hb8 : But (fun b => b = w.heap.size) w2 V := by rw [hV9]; exact putRow_but (E := fun b => b = w.heap.size) (n := w.heap.size) rfl _ _ _ _ (But.refl _ _)
    have p8 := putRow_all [.int .u8 (zs[1]?.getD 0), .int .u16 (wat zs 4), .bool (decide (16384 ≤ wat zs 6 % 32768)), .int .u8 (zs[8]?.getD 0), .int .u8 (zs[9]?.getD 0), .int .u32 (wat4 zs 12), .int .u32 (wat4 zs 16), .slice aso lo cso, .slice asd ld csd] p2 rfl
    rw [← hV9] at p8
    clear hV hV9 P2 F2 H
    have P8 := block_cell p8
    have hbW := (hb1.trans (hb2.mono (by simp))).trans (hb8.below (by have := hb2.size; simp at this; omega) (fun j h e => by omega))
    exact bodyPost_ret (v := .tuple #[pkt zs (.slice aso lo cso) (.slice asd ld csd), .int .i64 0]) (by simp [results, Tryz.results64, go_sem, P8, pkt]) rfl ⟨hbW, .inr ⟨h, _, _, rfl, (hO1.but hb8 (fun b h e => by simp at h; omega)).mono (by simp), (hO2.but hb8 (fun b h e => by simp at h; omega)).mono (by simp)⟩⟩

end Go.Proofs.YtdabhbadcbnkhaaGreatDoor

/- The document's Inner: where it refuses; segments and datagrams. -/
namespace Go.Proofs.YtdabhbadcbnkhaaGreatDoor
open Go.RowKit Go.Shelf
set_option maxRecDepth 100000
set_option linter.unusedVariables false
set_option linter.unusedSimpArgs false

def rin (v : Value) (c : Int) (e : Ending) : Prop := ∃ (y0 y1 : Int) (y2 : Bool) (y3 y4 y5 y6 : Int) (y7 : Option Addr) (m7 d7 : Nat) (y8 : Option Addr) (m8 d8 : Nat), e = .returned (.tuple #[.agg #[.int .u8 y0, .int .u16 y1, .bool y2, .int .u8 y3, .int .u8 y4, .int .u32 y5, .int .u32 y6, .slice y7 m7 d7, .slice y8 m8 d8], v, .int .i64 c])
theorem rin_mk (y0 y1 : Int) (y2 : Bool) (y3 y4 y5 y6 : Int) (y7 : Option Addr) (m7 d7 : Nat) (y8 : Option Addr) (m8 d8 : Nat) (v : Value) (c : Int) : rin v c (.returned (.tuple #[.agg #[.int .u8 y0, .int .u16 y1, .bool y2, .int .u8 y3, .int .u8 y4, .int .u32 y5, .int .u32 y6, .slice y7 m7 d7, .slice y8 m8 d8], v, .int .i64 c])) := ⟨_, _, _, _, _, _, _, _, _, _, _, _, _, rfl⟩

set_option maxHeartbeats 4000000 in
theorem rinner_kind (proto : Int) (tos id ttl src dst : Int) (keep : Bool) (so sd : Value) (zd : List Int) (w : World) (hB : Mt.By zd) (hI : Rd w.heap.size w sd zd) (hl : zd.length ≤ 1099511627776) (hp : proto ≠ 1) : Calls Tryz.prog 23 #[.agg #[.int .u8 tos, .int .u16 id, .bool keep, .int .u8 ttl, .int .u8 proto, .int .u32 src, .int .u32 dst, so, sd]] w fun e w' => Below w.heap.size w w' ∧ rin (.agg #[.int .u8 0, .int .u32 0, .int .u32 0, .int .u16 0, .int .u16 0]) 12 e := by
  have hne : (proto != 1) = true := by simp [hp]
  clear hp
  obtain ⟨ad, cd, rfl, _, _⟩ := hI.slice
  have hb0 : Below w.heap.size w (((w.alloc (.cells #[.int .u8 tos, .int .u16 id, .bool keep, .int .u8 ttl, .int .u8 proto, .int .u32 src, .int .u32 dst, so, .slice ad zd.length cd] 26)).alloc (.cells #[.int .u8 0, .int .u16 0, .bool false, .int .u8 0, .int .u8 0, .int .u32 0, .int .u32 0, .slice none 0 0, .slice none 0 0] 26)).alloc (.cells #[.int .u8 0, .int .u32 0, .int .u32 0, .int .u16 0, .int .u16 0] 29)) := ((((Below.refl _ _).alloc (Nat.le_refl _) _).alloc (by simp) _).alloc (by simp <;> omega) _)
  have r0 : (((w.alloc (.cells #[.int .u8 tos, .int .u16 id, .bool keep, .int .u8 ttl, .int .u8 proto, .int .u32 src, .int .u32 dst, so, .slice ad zd.length cd] 26)).alloc (.cells #[.int .u8 0, .int .u16 0, .bool false, .int .u8 0, .int .u8 0, .int .u32 0, .int .u32 0, .slice none 0 0, .slice none 0 0] 26)).alloc (.cells #[.int .u8 0, .int .u32 0, .int .u32 0, .int .u16 0, .int .u16 0] 29)).heap[w.heap.size + 1]? = some (.cells #[.int .u8 0, .int .u16 0, .bool false, .int .u8 0, .int .u8 0, .int .u32 0, .int .u32 0, .slice none 0 0, .slice none 0 0] 26) := by
    have := heap_alloc_new (w.alloc (.cells #[.int .u8 tos, .int .u16 id, .bool keep, .int .u8 ttl, .int .u8 proto, .int .u32 src, .int .u32 dst, so, .slice ad zd.length cd] 26)) (.cells #[.int .u8 0, .int .u16 0, .bool false, .int .u8 0, .int .u8 0, .int .u32 0, .int .u32 0, .slice none 0 0, .slice none 0 0] 26)
    rw [World.size_alloc] at this
    exact (Below.heap_alloc _ _ _ (by simp)).trans this
  have s0 : (((w.alloc (.cells #[.int .u8 tos, .int .u16 id, .bool keep, .int .u8 ttl, .int .u8 proto, .int .u32 src, .int .u32 dst, so, .slice ad zd.length cd] 26)).alloc (.cells #[.int .u8 0, .int .u16 0, .bool false, .int .u8 0, .int .u8 0, .int .u32 0, .int .u32 0, .slice none 0 0, .slice none 0 0] 26)).alloc (.cells #[.int .u8 0, .int .u32 0, .int .u32 0, .int .u16 0, .int .u16 0] 29)).heap[w.heap.size + 1 + 1]? = some (.cells #[.int .u8 0, .int .u32 0, .int .u32 0, .int .u16 0, .int .u16 0] 29) := by
    have := heap_alloc_new ((w.alloc (.cells #[.int .u8 tos, .int .u16 id, .bool keep, .int .u8 ttl, .int .u8 proto, .int .u32 src, .int .u32 dst, so, .slice ad zd.length cd] 26)).alloc (.cells #[.int .u8 0, .int .u16 0, .bool false, .int .u8 0, .int .u8 0, .int .u32 0, .int .u32 0, .slice none 0 0, .slice none 0 0] 26)) (.cells #[.int .u8 0, .int .u32 0, .int .u32 0, .int .u16 0, .int .u16 0] 29)
    simpa only [World.size_alloc] using this
  have R0 := hide r0
  have S0 := hide s0
  clear r0 s0
  go_enter Tryz.func23, Tryz.ntmps23
  go_upto_region 2 with fail
  generalize (((w.alloc (.cells #[.int .u8 tos, .int .u16 id, .bool keep, .int .u8 ttl, .int .u8 proto, .int .u32 src, .int .u32 dst, so, .slice ad zd.length cd] 26)).alloc (.cells #[.int .u8 0, .int .u16 0, .bool false, .int .u8 0, .int .u8 0, .int .u32 0, .int .u32 0, .slice none 0 0, .slice none 0 0] 26)).alloc (.cells #[.int .u8 0, .int .u32 0, .int .u32 0, .int .u16 0, .int .u16 0] 29)) = w0 at *
  have rX := R0.out
  have sX := S0.out
  have hwX := hb0
  have kX := block_cell rX
  have fX := block_frozen rX
  have kS := block_cell sX
  have fS := block_frozen sX
  go_wp2_with fail
  generalize hV : (((((((((((((w0.setCell ⟨w.heap.size + 1, 0, none⟩ _).setCell ⟨w.heap.size + 1, 1, none⟩ _).setCell ⟨w.heap.size + 1, 2, none⟩ _).setCell ⟨w.heap.size + 1, 3, none⟩ _).setCell ⟨w.heap.size + 1, 4, none⟩ _).setCell ⟨w.heap.size + 1, 5, none⟩ _).setCell ⟨w.heap.size + 1, 6, none⟩ _).setCell ⟨w.heap.size + 1, 7, none⟩ _).setCell ⟨w.heap.size + 1, 8, none⟩ _).setCell ⟨w.heap.size + 1 + 1, 0, none⟩ _).setCell ⟨w.heap.size + 1 + 1, 1, none⟩ _).setCell ⟨w.heap.size + 1 + 1, 2, none⟩ _).setCell ⟨w.heap.size + 1 + 1, 3, none⟩ _).setCell ⟨w.heap.size + 1 + 1, 4, none⟩ _ = V
  have hV8 : V = putRow (putRow w0 (w.heap.size + 1) 0 [.int .u8 0, .int .u16 0, .bool false, .int .u8 0, .int .u8 0, .int .u32 0, .int .u32 0, .slice none 0 0, .slice none 0 0]) (w.heap.size + 1 + 1) 0 [.int .u8 0, .int .u32 0, .int .u32 0, .int .u16 0, .int .u16 0] := hV.symm
  have hbY : But (fun b => b = w.heap.size + 1) w0 (putRow w0 (w.heap.size + 1) 0 [.int .u8 0, .int .u16 0, .bool false, .int .u8 0, .int .u8 0, .int .u32 0, .int .u32 0, .slice none 0 0, .slice none 0 0]) := putRow_but (E := fun b => b = w.heap.size + 1) (n := w.heap.size + 1) rfl _ _ _ _ (But.refl _ _)
  have pY := putRow_all ([.int .u8 0, .int .u16 0, .bool false, .int .u8 0, .int .u8 0, .int .u32 0, .int .u32 0, .slice none 0 0, .slice none 0 0] : List Value) rX rfl
  have sY := (hbY.block (w.heap.size + 1 + 1) (Array.getElem?_eq_some_iff.1 sX).1 (by omega)).trans sX
  generalize putRow w0 (w.heap.size + 1) 0 [.int .u8 0, .int .u16 0, .bool false, .int .u8 0, .int .u8 0, .int .u32 0, .int .u32 0, .slice none 0 0, .slice none 0 0] = Y at *
  have hbV : But (fun b => b = w.heap.size + 1 + 1) Y V := by rw [hV8]; exact putRow_but (E := fun b => b = w.heap.size + 1 + 1) (n := w.heap.size + 1 + 1) rfl _ _ _ _ (But.refl _ _)
  have qV := putRow_all ([.int .u8 0, .int .u32 0, .int .u32 0, .int .u16 0, .int .u16 0] : List Value) sY rfl
  rw [← hV8] at qV
  have pV := (hbV.block (w.heap.size + 1) (Array.getElem?_eq_some_iff.1 pY).1 (by omega)).trans pY
  clear hV8 kX fX kS fS
  have PV := block_cell pV
  have QV := block_cell qV
  have hwV : Below w.heap.size w V := (hwX.trans (hbY.below hwX.size (fun k hk e => by omega))).trans (hbV.below (Nat.le_trans hwX.size hbY.size) (fun k hk e => by omega))
  exact bodyPost_ret (v := .tuple #[.agg #[.int .u8 0, .int .u16 0, .bool false, .int .u8 0, .int .u8 0, .int .u32 0, .int .u32 0, .slice none 0 0, .slice none 0 0], .agg #[.int .u8 0, .int .u32 0, .int .u32 0, .int .u16 0, .int .u16 0], .int .i64 12]) (by simp [results, Tryz.results23, go_sem, PV, QV]) rfl ⟨hwV, rin_mk _ _ _ _ _ _ _ _ _ _ _ _ _ _ _⟩

set_option maxHeartbeats 4000000 in
theorem rinner_bad (tos id ttl src dst : Int) (keep : Bool) (so sd : Value) (zd : List Int) (w : World) (hB : Mt.By zd) (hI : Rd w.heap.size w sd zd) (hl : zd.length ≤ 1099511627776) (hbad : pie 1 zd ≠ 0 ∨ erb (zd[0]?.getD 0) = false ∨ rde true (zd.drop 8) ≠ 0) : Calls Tryz.prog 23 #[.agg #[.int .u8 tos, .int .u16 id, .bool keep, .int .u8 ttl, .int .u8 1, .int .u32 src, .int .u32 dst, so, sd]] w fun e w' => Below w.heap.size w w' ∧ rin (.agg #[.int .u8 0, .int .u32 0, .int .u32 0, .int .u16 0, .int .u16 0]) (que 1 zd) e := by
  obtain ⟨ad, cd, rfl, _, _⟩ := hI.slice
  have hb0 : Below w.heap.size w (((w.alloc (.cells #[.int .u8 tos, .int .u16 id, .bool keep, .int .u8 ttl, .int .u8 1, .int .u32 src, .int .u32 dst, so, .slice ad zd.length cd] 26)).alloc (.cells #[.int .u8 0, .int .u16 0, .bool false, .int .u8 0, .int .u8 0, .int .u32 0, .int .u32 0, .slice none 0 0, .slice none 0 0] 26)).alloc (.cells #[.int .u8 0, .int .u32 0, .int .u32 0, .int .u16 0, .int .u16 0] 29)) := ((((Below.refl _ _).alloc (Nat.le_refl _) _).alloc (by simp) _).alloc (by simp <;> omega) _)
  have r0 : (((w.alloc (.cells #[.int .u8 tos, .int .u16 id, .bool keep, .int .u8 ttl, .int .u8 1, .int .u32 src, .int .u32 dst, so, .slice ad zd.length cd] 26)).alloc (.cells #[.int .u8 0, .int .u16 0, .bool false, .int .u8 0, .int .u8 0, .int .u32 0, .int .u32 0, .slice none 0 0, .slice none 0 0] 26)).alloc (.cells #[.int .u8 0, .int .u32 0, .int .u32 0, .int .u16 0, .int .u16 0] 29)).heap[w.heap.size + 1]? = some (.cells #[.int .u8 0, .int .u16 0, .bool false, .int .u8 0, .int .u8 0, .int .u32 0, .int .u32 0, .slice none 0 0, .slice none 0 0] 26) := by
    have := heap_alloc_new (w.alloc (.cells #[.int .u8 tos, .int .u16 id, .bool keep, .int .u8 ttl, .int .u8 1, .int .u32 src, .int .u32 dst, so, .slice ad zd.length cd] 26)) (.cells #[.int .u8 0, .int .u16 0, .bool false, .int .u8 0, .int .u8 0, .int .u32 0, .int .u32 0, .slice none 0 0, .slice none 0 0] 26)
    rw [World.size_alloc] at this
    exact (Below.heap_alloc _ _ _ (by simp)).trans this
  have s0 : (((w.alloc (.cells #[.int .u8 tos, .int .u16 id, .bool keep, .int .u8 ttl, .int .u8 1, .int .u32 src, .int .u32 dst, so, .slice ad zd.length cd] 26)).alloc (.cells #[.int .u8 0, .int .u16 0, .bool false, .int .u8 0, .int .u8 0, .int .u32 0, .int .u32 0, .slice none 0 0, .slice none 0 0] 26)).alloc (.cells #[.int .u8 0, .int .u32 0, .int .u32 0, .int .u16 0, .int .u16 0] 29)).heap[w.heap.size + 1 + 1]? = some (.cells #[.int .u8 0, .int .u32 0, .int .u32 0, .int .u16 0, .int .u16 0] 29) := by
    have := heap_alloc_new ((w.alloc (.cells #[.int .u8 tos, .int .u16 id, .bool keep, .int .u8 ttl, .int .u8 1, .int .u32 src, .int .u32 dst, so, .slice ad zd.length cd] 26)).alloc (.cells #[.int .u8 0, .int .u16 0, .bool false, .int .u8 0, .int .u8 0, .int .u32 0, .int .u32 0, .slice none 0 0, .slice none 0 0] 26)) (.cells #[.int .u8 0, .int .u32 0, .int .u32 0, .int .u16 0, .int .u16 0] 29)
    simpa only [World.size_alloc] using this
  have R0 := hide r0
  have S0 := hide s0
  clear r0 s0
  go_enter Tryz.func23, Tryz.ntmps23
  go_wp2_with fail
  generalize (((w.alloc (.cells #[.int .u8 tos, .int .u16 id, .bool keep, .int .u8 ttl, .int .u8 1, .int .u32 src, .int .u32 dst, so, .slice ad zd.length cd] 26)).alloc (.cells #[.int .u8 0, .int .u16 0, .bool false, .int .u8 0, .int .u8 0, .int .u32 0, .int .u32 0, .slice none 0 0, .slice none 0 0] 26)).alloc (.cells #[.int .u8 0, .int .u32 0, .int .u32 0, .int .u16 0, .int .u16 0] 29)) = w0 at *
  refine (rparseIcmp_any tos id ttl 1 src dst keep _ _ zd w0 hB ((hI.below hb0).mono hb0.size) hl).mono ?_
  rintro e w1 ⟨hb1, ⟨hf, rfl⟩ | ⟨hf, a1, c1, rfl, hO⟩⟩
  · rw [show zm.toArray = #[.int .u8 0, .int .u8 0, .int .u32 0, .slice none 0 0] from rfl]
    have HQ : Hid (que 1 zd = pie 1 zd) := if_pos hf
    generalize hpu : pie 1 zd = f at *
    have hne : (f != 0) = true := by simp [hf]
    clear hpu hf hbad
    have la : Later w1 (w1.alloc (.cells #[.int .u8 0, .int .u8 0, .int .u32 0, .slice none 0 0] 39)) := (Below.refl _ _).alloc (Nat.le_refl _) _
    have l1 := Later.trans hb1 la
    have rX := later_keep l1 R0.out
    have sX := later_keep l1 S0.out
    have hwX := hb0.trans (l1.mono hb0.size)
    have kX := block_cell rX
    have fX := block_frozen rX
    have kS := block_cell sX
    have fS := block_frozen sX
    go_wp2_with fail
    generalize w1.alloc (.cells #[.int .u8 0, .int .u8 0, .int .u32 0, .slice none 0 0] 39) = W at *
    generalize hV : (((((((((((((W.setCell ⟨w.heap.size + 1, 0, none⟩ _).setCell ⟨w.heap.size + 1, 1, none⟩ _).setCell ⟨w.heap.size + 1, 2, none⟩ _).setCell ⟨w.heap.size + 1, 3, none⟩ _).setCell ⟨w.heap.size + 1, 4, none⟩ _).setCell ⟨w.heap.size + 1, 5, none⟩ _).setCell ⟨w.heap.size + 1, 6, none⟩ _).setCell ⟨w.heap.size + 1, 7, none⟩ _).setCell ⟨w.heap.size + 1, 8, none⟩ _).setCell ⟨w.heap.size + 1 + 1, 0, none⟩ _).setCell ⟨w.heap.size + 1 + 1, 1, none⟩ _).setCell ⟨w.heap.size + 1 + 1, 2, none⟩ _).setCell ⟨w.heap.size + 1 + 1, 3, none⟩ _).setCell ⟨w.heap.size + 1 + 1, 4, none⟩ _ = V
    have hV8 : V = putRow (putRow W (w.heap.size + 1) 0 [.int .u8 0, .int .u16 0, .bool false, .int .u8 0, .int .u8 0, .int .u32 0, .int .u32 0, .slice none 0 0, .slice none 0 0]) (w.heap.size + 1 + 1) 0 [.int .u8 0, .int .u32 0, .int .u32 0, .int .u16 0, .int .u16 0] := hV.symm
    have hbY : But (fun b => b = w.heap.size + 1) W (putRow W (w.heap.size + 1) 0 [.int .u8 0, .int .u16 0, .bool false, .int .u8 0, .int .u8 0, .int .u32 0, .int .u32 0, .slice none 0 0, .slice none 0 0]) := putRow_but (E := fun b => b = w.heap.size + 1) (n := w.heap.size + 1) rfl _ _ _ _ (But.refl _ _)
    have pY := putRow_all ([.int .u8 0, .int .u16 0, .bool false, .int .u8 0, .int .u8 0, .int .u32 0, .int .u32 0, .slice none 0 0, .slice none 0 0] : List Value) rX rfl
    have sY := (hbY.block (w.heap.size + 1 + 1) (Array.getElem?_eq_some_iff.1 sX).1 (by omega)).trans sX
    generalize putRow W (w.heap.size + 1) 0 [.int .u8 0, .int .u16 0, .bool false, .int .u8 0, .int .u8 0, .int .u32 0, .int .u32 0, .slice none 0 0, .slice none 0 0] = Y at *
    have hbV : But (fun b => b = w.heap.size + 1 + 1) Y V := by rw [hV8]; exact putRow_but (E := fun b => b = w.heap.size + 1 + 1) (n := w.heap.size + 1 + 1) rfl _ _ _ _ (But.refl _ _)
    have qV := putRow_all ([.int .u8 0, .int .u32 0, .int .u32 0, .int .u16 0, .int .u16 0] : List Value) sY rfl
    rw [← hV8] at qV
    have pV := (hbV.block (w.heap.size + 1) (Array.getElem?_eq_some_iff.1 pY).1 (by omega)).trans pY
    clear hV8 kX fX kS fS
    have PV := block_cell pV
    have QV := block_cell qV
    have hwV : Below w.heap.size w V := (hwX.trans (hbY.below hwX.size (fun k hk e => by omega))).trans (hbV.below (Nat.le_trans hwX.size hbY.size) (fun k hk e => by omega))
    exact bodyPost_ret (v := .tuple #[.agg #[.int .u8 0, .int .u16 0, .bool false, .int .u8 0, .int .u8 0, .int .u32 0, .int .u32 0, .slice none 0 0, .slice none 0 0], .agg #[.int .u8 0, .int .u32 0, .int .u32 0, .int .u16 0, .int .u16 0], .int .i64 f]) (by simp [results, Tryz.results23, go_sem, PV, QV]) rfl ⟨hwV, by rw [HQ.out]; exact rin_mk _ _ _ _ _ _ _ _ _ _ _ _ _ _ _⟩
  · have HPF := hide hf
    clear hf
    have la : Later w1 (w1.alloc (.cells #[.int .u8 (zd[0]?.getD 0), .int .u8 (zd[1]?.getD 0), .int .u32 (wat4 zd 4), .slice a1 (zd.length - 8) c1] 39)) := (Below.refl _ _).alloc (Nat.le_refl _) _
    have l1 := Later.trans hb1 la
    have mW := heap_alloc_new w1 (.cells #[.int .u8 (zd[0]?.getD 0), .int .u8 (zd[1]?.getD 0), .int .u32 (wat4 zd 4), .slice a1 (zd.length - 8) c1] 39)
    have rW := later_keep l1 R0.out
    have sW := later_keep l1 S0.out
    have hwW := hb0.trans (l1.mono hb0.size)
    have DW := hO.ck (CK.of la)
    go_wp2_with fail
    generalize w1.alloc (.cells #[.int .u8 (zd[0]?.getD 0), .int .u8 (zd[1]?.getD 0), .int .u32 (wat4 zd 4), .slice a1 (zd.length - 8) c1] 39) = W at *
    generalize w1.heap.size = gm at *
    refine (risError_any (zd[0]?.getD 0) (zd[1]?.getD 0) (wat4 zd 4) _ W).mono ?_
    have HER : Hid (erb (zd[0]?.getD 0) = (zd[0]?.getD 0 == 3 || (zd[0]?.getD 0 == 11 || zd[0]?.getD 0 == 12))) := rfl
    generalize (zd[0]?.getD 0 == 3 || (zd[0]?.getD 0 == 11 || zd[0]?.getD 0 == 12)) = bq at *
    rintro e w2 ⟨rfl, hb2⟩
    have l2 : Later W w2 := hb2
    have r2 := later_keep l2 rW
    have s2 := later_keep l2 sW
    have hw2 := hwW.trans (hb2.mono hwW.size)
    cases bq with
    | false =>
      have HQ : Hid (que 1 zd = 12) := by show _ = _; unfold que; rw [if_neg (fun h => h HPF.out), if_pos HER.out]
      clear hbad
      have rX := r2
      have sX := s2
      have hwX := hw2
      have kX := block_cell rX
      have fX := block_frozen rX
      have kS := block_cell sX
      have fS := block_frozen sX
      go_wp2_with fail
      generalize hV : (((((((((((((w2.setCell ⟨w.heap.size + 1, 0, none⟩ _).setCell ⟨w.heap.size + 1, 1, none⟩ _).setCell ⟨w.heap.size + 1, 2, none⟩ _).setCell ⟨w.heap.size + 1, 3, none⟩ _).setCell ⟨w.heap.size + 1, 4, none⟩ _).setCell ⟨w.heap.size + 1, 5, none⟩ _).setCell ⟨w.heap.size + 1, 6, none⟩ _).setCell ⟨w.heap.size + 1, 7, none⟩ _).setCell ⟨w.heap.size + 1, 8, none⟩ _).setCell ⟨w.heap.size + 1 + 1, 0, none⟩ _).setCell ⟨w.heap.size + 1 + 1, 1, none⟩ _).setCell ⟨w.heap.size + 1 + 1, 2, none⟩ _).setCell ⟨w.heap.size + 1 + 1, 3, none⟩ _).setCell ⟨w.heap.size + 1 + 1, 4, none⟩ _ = V
      have hV8 : V = putRow (putRow w2 (w.heap.size + 1) 0 [.int .u8 0, .int .u16 0, .bool false, .int .u8 0, .int .u8 0, .int .u32 0, .int .u32 0, .slice none 0 0, .slice none 0 0]) (w.heap.size + 1 + 1) 0 [.int .u8 0, .int .u32 0, .int .u32 0, .int .u16 0, .int .u16 0] := hV.symm
      have hbY : But (fun b => b = w.heap.size + 1) w2 (putRow w2 (w.heap.size + 1) 0 [.int .u8 0, .int .u16 0, .bool false, .int .u8 0, .int .u8 0, .int .u32 0, .int .u32 0, .slice none 0 0, .slice none 0 0]) := putRow_but (E := fun b => b = w.heap.size + 1) (n := w.heap.size + 1) rfl _ _ _ _ (But.refl _ _)
      have pY := putRow_all ([.int .u8 0, .int .u16 0, .bool false, .int .u8 0, .int .u8 0, .int .u32 0, .int .u32 0, .slice none 0 0, .slice none 0 0] : List Value) rX rfl
      have sY := (hbY.block (w.heap.size + 1 + 1) (Array.getElem?_eq_some_iff.1 sX).1 (by omega)).trans sX
      generalize putRow w2 (w.heap.size + 1) 0 [.int .u8 0, .int .u16 0, .bool false, .int .u8 0, .int .u8 0, .int .u32 0, .int .u32 0, .slice none 0 0, .slice none 0 0] = Y at *
      have hbV : But (fun b => b = w.heap.size + 1 + 1) Y V := by rw [hV8]; exact putRow_but (E := fun b => b = w.heap.size + 1 + 1) (n := w.heap.size + 1 + 1) rfl _ _ _ _ (But.refl _ _)
      have qV := putRow_all ([.int .u8 0, .int .u32 0, .int .u32 0, .int .u16 0, .int .u16 0] : List Value) sY rfl
      rw [← hV8] at qV
      have pV := (hbV.block (w.heap.size + 1) (Array.getElem?_eq_some_iff.1 pY).1 (by omega)).trans pY
      clear hV8 kX fX kS fS
      have PV := block_cell pV
      have QV := block_cell qV
      have hwV : Below w.heap.size w V := (hwX.trans (hbY.below hwX.size (fun k hk e => by omega))).trans (hbV.below (Nat.le_trans hwX.size hbY.size) (fun k hk e => by omega))
      exact bodyPost_ret (v := .tuple #[.agg #[.int .u8 0, .int .u16 0, .bool false, .int .u8 0, .int .u8 0, .int .u32 0, .int .u32 0, .slice none 0 0, .slice none 0 0], .agg #[.int .u8 0, .int .u32 0, .int .u32 0, .int .u16 0, .int .u16 0], .int .i64 12]) (by simp [results, Tryz.results23, go_sem, PV, QV]) rfl ⟨hwV, by rw [HQ.out]; exact rin_mk _ _ _ _ _ _ _ _ _ _ _ _ _ _ _⟩
    | true =>
      have hrd : rde true (zd.drop 8) ≠ 0 := by
        rcases hbad with h | h | h
        · exact absurd HPF.out h
        · rw [HER.out] at h; cases h
        · exact h
      clear hbad
      have HQ : Hid (que 1 zd = rde true (zd.drop 8)) := by show _ = _; unfold que; rw [if_neg (fun h => h HPF.out), if_neg (by rw [HER.out]; decide), if_pos hrd]
      have km := block_cell (later_keep l2 mW)
      have D2 := DW.ck (CK.of l2)
      go_wp2_with fail
      clear km
      refine (rquote_any _ (zd.drop 8) w2 (hB.drop 8) (by simp; omega) D2.rd).mono ?_
      rintro e w3 ⟨hb3, ⟨hf3, rfl⟩ | ⟨hf3, _⟩⟩
      · rw [show zc.toArray = #[.int .u8 0, .int .u16 0, .bool false, .int .u8 0, .int .u8 0, .int .u32 0, .int .u32 0, .slice none 0 0, .slice none 0 0] from rfl]
        generalize hpu : rde true (zd.drop 8) = f at *
        have hne : (f != 0) = true := by simp [hrd]
        clear hpu hrd hf3
        have la3 : Later w3 (w3.alloc (.cells #[.int .u8 0, .int .u16 0, .bool false, .int .u8 0, .int .u8 0, .int .u32 0, .int .u32 0, .slice none 0 0, .slice none 0 0] 26)) := (Below.refl _ _).alloc (Nat.le_refl _) _
        have l3 := Later.trans hb3 la3
        have rX := later_keep l3 r2
        have sX := later_keep l3 s2
        have hwX := hw2.trans (l3.mono hw2.size)
        have kX := block_cell rX
        have fX := block_frozen rX
        have kS := block_cell sX
        have fS := block_frozen sX
        go_wp2_with fail
        generalize w3.alloc (.cells #[.int .u8 0, .int .u16 0, .bool false, .int .u8 0, .int .u8 0, .int .u32 0, .int .u32 0, .slice none 0 0, .slice none 0 0] 26) = W3 at *
        generalize hV : (((((((((((((W3.setCell ⟨w.heap.size + 1, 0, none⟩ _).setCell ⟨w.heap.size + 1, 1, none⟩ _).setCell ⟨w.heap.size + 1, 2, none⟩ _).setCell ⟨w.heap.size + 1, 3, none⟩ _).setCell ⟨w.heap.size + 1, 4, none⟩ _).setCell ⟨w.heap.size + 1, 5, none⟩ _).setCell ⟨w.heap.size + 1, 6, none⟩ _).setCell ⟨w.heap.size + 1, 7, none⟩ _).setCell ⟨w.heap.size + 1, 8, none⟩ _).setCell ⟨w.heap.size + 1 + 1, 0, none⟩ _).setCell ⟨w.heap.size + 1 + 1, 1, none⟩ _).setCell ⟨w.heap.size + 1 + 1, 2, none⟩ _).setCell ⟨w.heap.size + 1 + 1, 3, none⟩ _).setCell ⟨w.heap.size + 1 + 1, 4, none⟩ _ = V
        have hV8 : V = putRow (putRow W3 (w.heap.size + 1) 0 [.int .u8 0, .int .u16 0, .bool false, .int .u8 0, .int .u8 0, .int .u32 0, .int .u32 0, .slice none 0 0, .slice none 0 0]) (w.heap.size + 1 + 1) 0 [.int .u8 0, .int .u32 0, .int .u32 0, .int .u16 0, .int .u16 0] := hV.symm
        have hbY : But (fun b => b = w.heap.size + 1) W3 (putRow W3 (w.heap.size + 1) 0 [.int .u8 0, .int .u16 0, .bool false, .int .u8 0, .int .u8 0, .int .u32 0, .int .u32 0, .slice none 0 0, .slice none 0 0]) := putRow_but (E := fun b => b = w.heap.size + 1) (n := w.heap.size + 1) rfl _ _ _ _ (But.refl _ _)
        have pY := putRow_all ([.int .u8 0, .int .u16 0, .bool false, .int .u8 0, .int .u8 0, .int .u32 0, .int .u32 0, .slice none 0 0, .slice none 0 0] : List Value) rX rfl
        have sY := (hbY.block (w.heap.size + 1 + 1) (Array.getElem?_eq_some_iff.1 sX).1 (by omega)).trans sX
        generalize putRow W3 (w.heap.size + 1) 0 [.int .u8 0, .int .u16 0, .bool false, .int .u8 0, .int .u8 0, .int .u32 0, .int .u32 0, .slice none 0 0, .slice none 0 0] = Y at *
        have hbV : But (fun b => b = w.heap.size + 1 + 1) Y V := by rw [hV8]; exact putRow_but (E := fun b => b = w.heap.size + 1 + 1) (n := w.heap.size + 1 + 1) rfl _ _ _ _ (But.refl _ _)
        have qV := putRow_all ([.int .u8 0, .int .u32 0, .int .u32 0, .int .u16 0, .int .u16 0] : List Value) sY rfl
        rw [← hV8] at qV
        have pV := (hbV.block (w.heap.size + 1) (Array.getElem?_eq_some_iff.1 pY).1 (by omega)).trans pY
        clear hV8 kX fX kS fS
        have PV := block_cell pV
        have QV := block_cell qV
        have hwV : Below w.heap.size w V := (hwX.trans (hbY.below hwX.size (fun k hk e => by omega))).trans (hbV.below (Nat.le_trans hwX.size hbY.size) (fun k hk e => by omega))
        exact bodyPost_ret (v := .tuple #[.agg #[.int .u8 0, .int .u16 0, .bool false, .int .u8 0, .int .u8 0, .int .u32 0, .int .u32 0, .slice none 0 0, .slice none 0 0], .agg #[.int .u8 0, .int .u32 0, .int .u32 0, .int .u16 0, .int .u16 0], .int .i64 f]) (by simp [results, Tryz.results23, go_sem, PV, QV]) rfl ⟨hwV, by rw [HQ.out]; exact rin_mk _ _ _ _ _ _ _ _ _ _ _ _ _ _ _⟩
      · exact absurd hf3 hrd

set_option maxHeartbeats 8000000 in
theorem rinner_tcp (pr : Int) (tos id ttl src dst : Int) (keep : Bool) (so sd : Value) (zd : List Int) (w : World) (hB : Mt.By zd) (hI : Rd w.heap.size w sd zd) (hl : zd.length ≤ 1099511627776) (hpi : pie 1 zd = 0) (her : erb (zd[0]?.getD 0) = true) (hrd : rde true (zd.drop 8) = 0) (hpr : (zd.drop 8)[9]?.getD 0 = pr) (h8 : 8 ≤ (qdt (zd.drop 8)).length) (hld : (qdt (zd.drop 8)).length ≤ 140737488355328) (hp : pr = 6) : Calls Tryz.prog 23 #[.agg #[.int .u8 tos, .int .u16 id, .bool keep, .int .u8 ttl, .int .u8 1, .int .u32 src, .int .u32 dst, so, sd]] w fun e w' => Below w.heap.size w w' ∧ rin (.agg #[.int .u8 pr, .int .u32 (wat4 (zd.drop 8) 12), .int .u32 (wat4 (zd.drop 8) 16), .int .u16 (getAt2 (qdt (zd.drop 8)) 0), .int .u16 (getAt2 (qdt (zd.drop 8)) 2)]) 0 e := by
  obtain ⟨ad, cd, rfl, _, _⟩ := hI.slice
  have hb0 : Below w.heap.size w (((w.alloc (.cells #[.int .u8 tos, .int .u16 id, .bool keep, .int .u8 ttl, .int .u8 1, .int .u32 src, .int .u32 dst, so, .slice ad zd.length cd] 26)).alloc (.cells #[.int .u8 0, .int .u16 0, .bool false, .int .u8 0, .int .u8 0, .int .u32 0, .int .u32 0, .slice none 0 0, .slice none 0 0] 26)).alloc (.cells #[.int .u8 0, .int .u32 0, .int .u32 0, .int .u16 0, .int .u16 0] 29)) := ((((Below.refl _ _).alloc (Nat.le_refl _) _).alloc (by simp) _).alloc (by simp <;> omega) _)
  have r0 : (((w.alloc (.cells #[.int .u8 tos, .int .u16 id, .bool keep, .int .u8 ttl, .int .u8 1, .int .u32 src, .int .u32 dst, so, .slice ad zd.length cd] 26)).alloc (.cells #[.int .u8 0, .int .u16 0, .bool false, .int .u8 0, .int .u8 0, .int .u32 0, .int .u32 0, .slice none 0 0, .slice none 0 0] 26)).alloc (.cells #[.int .u8 0, .int .u32 0, .int .u32 0, .int .u16 0, .int .u16 0] 29)).heap[w.heap.size + 1]? = some (.cells #[.int .u8 0, .int .u16 0, .bool false, .int .u8 0, .int .u8 0, .int .u32 0, .int .u32 0, .slice none 0 0, .slice none 0 0] 26) := by
    have := heap_alloc_new (w.alloc (.cells #[.int .u8 tos, .int .u16 id, .bool keep, .int .u8 ttl, .int .u8 1, .int .u32 src, .int .u32 dst, so, .slice ad zd.length cd] 26)) (.cells #[.int .u8 0, .int .u16 0, .bool false, .int .u8 0, .int .u8 0, .int .u32 0, .int .u32 0, .slice none 0 0, .slice none 0 0] 26)
    rw [World.size_alloc] at this
    exact (Below.heap_alloc _ _ _ (by simp)).trans this
  have s0 : (((w.alloc (.cells #[.int .u8 tos, .int .u16 id, .bool keep, .int .u8 ttl, .int .u8 1, .int .u32 src, .int .u32 dst, so, .slice ad zd.length cd] 26)).alloc (.cells #[.int .u8 0, .int .u16 0, .bool false, .int .u8 0, .int .u8 0, .int .u32 0, .int .u32 0, .slice none 0 0, .slice none 0 0] 26)).alloc (.cells #[.int .u8 0, .int .u32 0, .int .u32 0, .int .u16 0, .int .u16 0] 29)).heap[w.heap.size + 1 + 1]? = some (.cells #[.int .u8 0, .int .u32 0, .int .u32 0, .int .u16 0, .int .u16 0] 29) := by
    have := heap_alloc_new ((w.alloc (.cells #[.int .u8 tos, .int .u16 id, .bool keep, .int .u8 ttl, .int .u8 1, .int .u32 src, .int .u32 dst, so, .slice ad zd.length cd] 26)).alloc (.cells #[.int .u8 0, .int .u16 0, .bool false, .int .u8 0, .int .u8 0, .int .u32 0, .int .u32 0, .slice none 0 0, .slice none 0 0] 26)) (.cells #[.int .u8 0, .int .u32 0, .int .u32 0, .int .u16 0, .int .u16 0] 29)
    simpa only [World.size_alloc] using this
  have R0 := hide r0
  have S0 := hide s0
  clear r0 s0
  go_enter Tryz.func23, Tryz.ntmps23
  go_wp2_with fail
  generalize (((w.alloc (.cells #[.int .u8 tos, .int .u16 id, .bool keep, .int .u8 ttl, .int .u8 1, .int .u32 src, .int .u32 dst, so, .slice ad zd.length cd] 26)).alloc (.cells #[.int .u8 0, .int .u16 0, .bool false, .int .u8 0, .int .u8 0, .int .u32 0, .int .u32 0, .slice none 0 0, .slice none 0 0] 26)).alloc (.cells #[.int .u8 0, .int .u32 0, .int .u32 0, .int .u16 0, .int .u16 0] 29)) = w0 at *
  refine (rparseIcmp_any tos id ttl 1 src dst keep _ _ zd w0 hB ((hI.below hb0).mono hb0.size) hl).mono ?_
  rintro e w1 ⟨hb1, ⟨hf, rfl⟩ | ⟨hf, a1, c1, rfl, hO⟩⟩
  · exact absurd hpi hf
  · clear hf
    have la : Later w1 (w1.alloc (.cells #[.int .u8 (zd[0]?.getD 0), .int .u8 (zd[1]?.getD 0), .int .u32 (wat4 zd 4), .slice a1 (zd.length - 8) c1] 39)) := (Below.refl _ _).alloc (Nat.le_refl _) _
    have l1 := Later.trans hb1 la
    have mW := heap_alloc_new w1 (.cells #[.int .u8 (zd[0]?.getD 0), .int .u8 (zd[1]?.getD 0), .int .u32 (wat4 zd 4), .slice a1 (zd.length - 8) c1] 39)
    have rW := later_keep l1 R0.out
    have sW := later_keep l1 S0.out
    have hwW := hb0.trans (l1.mono hb0.size)
    have DW := hO.ck (CK.of la)
    go_wp2_with fail
    generalize w1.alloc (.cells #[.int .u8 (zd[0]?.getD 0), .int .u8 (zd[1]?.getD 0), .int .u32 (wat4 zd 4), .slice a1 (zd.length - 8) c1] 39) = W at *
    generalize w1.heap.size = gm at *
    refine (risError_any (zd[0]?.getD 0) (zd[1]?.getD 0) (wat4 zd 4) _ W).mono ?_
    rw [show (zd[0]?.getD 0 == 3 || (zd[0]?.getD 0 == 11 || zd[0]?.getD 0 == 12)) = true from her]
    rintro e w2 ⟨rfl, hb2⟩
    have l2 : Later W w2 := hb2
    have r2 := later_keep l2 rW
    have s2 := later_keep l2 sW
    have hw2 := hwW.trans (hb2.mono hwW.size)
    have km := block_cell (later_keep l2 mW)
    have D2 := DW.ck (CK.of l2)
    go_wp2_with fail
    clear km
    refine (rquote_any _ (zd.drop 8) w2 (hB.drop 8) (by simp; omega) D2.rd).mono ?_
    rintro e w3 ⟨hb3, ⟨hf3, _⟩ | ⟨_, qo, qs0, rfl, hO3, hD3⟩⟩
    · exact absurd hrd hf3
    obtain ⟨b7, c7, rfl, _, _⟩ := hO3.slice
    obtain ⟨b8, c8, rfl, hc8, hc9⟩ := hD3.slice
    have hBq := By_qdt (hB.drop 8)
    unfold pkt
    have HPR := hide hpr
    rw [hpr]
    clear hpr hpi her hrd
    generalize (zd.drop 8)[1]?.getD 0 = q1 at *
    generalize wat (zd.drop 8) 4 = q2 at *
    generalize decide (16384 ≤ wat (zd.drop 8) 6 % 32768) = q3 at *
    generalize (zd.drop 8)[8]?.getD 0 = q4 at *
    generalize hqs : wat4 (zd.drop 8) 12 = qs at *
    generalize hqd : wat4 (zd.drop 8) 16 = qd at *
    have HQS := hide hqs
    have HQD := hide hqd
    clear hqs hqd
    generalize (((zd.drop 8).take (hl4 (zd.drop 8)).toNat).drop 20).length = l7 at *
    clear hO3
    rw [show ((zd.drop 8).take (ral true (zd.drop 8)).toNat).drop (hl4 (zd.drop 8)).toNat = qdt (zd.drop 8) from rfl] at hD3 hc8 ⊢
    generalize hdq : qdt (zd.drop 8) = dq at *
    have HDQ := hide hdq
    clear hdq
    have la3 : Later w3 (w3.alloc (.cells #[.int .u8 q1, .int .u16 q2, .bool q3, .int .u8 q4, .int .u8 pr, .int .u32 qs, .int .u32 qd, .slice b7 l7 c7, .slice b8 dq.length c8] 26)) := (Below.refl _ _).alloc (Nat.le_refl _) _
    have lb3 : Later (w3.alloc (.cells #[.int .u8 q1, .int .u16 q2, .bool q3, .int .u8 q4, .int .u8 pr, .int .u32 qs, .int .u32 qd, .slice b7 l7 c7, .slice b8 dq.length c8] 26)) ((w3.alloc (.cells #[.int .u8 q1, .int .u16 q2, .bool q3, .int .u8 q4, .int .u8 pr, .int .u32 qs, .int .u32 qd, .slice b7 l7 c7, .slice b8 dq.length c8] 26)).alloc (.cells #[.int .u8 pr, .int .u32 qs, .int .u32 qd, .int .u16 0, .int .u16 0] 29)) := (Below.refl _ _).alloc (Nat.le_refl _) _
    have lab := la3.trans lb3
    have l3 := Later.trans hb3 lab
    have qk := later_keep lb3 (heap_alloc_new w3 (.cells #[.int .u8 q1, .int .u16 q2, .bool q3, .int .u8 q4, .int .u8 pr, .int .u32 qs, .int .u32 qd, .slice b7 l7 c7, .slice b8 dq.length c8] 26))
    have tk := heap_alloc_new (w3.alloc (.cells #[.int .u8 q1, .int .u16 q2, .bool q3, .int .u8 q4, .int .u8 pr, .int .u32 qs, .int .u32 qd, .slice b7 l7 c7, .slice b8 dq.length c8] 26)) (.cells #[.int .u8 pr, .int .u32 qs, .int .u32 qd, .int .u16 0, .int .u16 0] 29)
    rw [World.size_alloc] at tk
    have r3 := later_keep l3 r2
    have s3 := later_keep l3 s2
    have hw3 := hw2.trans (l3.mono hw2.size)
    have D3 := hD3.ck (CK.of lab)
    have hgq : w.heap.size + 1 + 1 < w3.heap.size := Nat.lt_of_lt_of_le (Array.getElem?_eq_some_iff.1 s2).1 hb3.size
    clear D2 hD3
    have HLQ : Hid (8 ≤ dq.length) := h8
    have hq6 : (pr == 6) = true := by simp [hp]
    have hq17 : (pr == 17) = false := by simp [hp]
    have HP := hide hp
    clear hp
    have kq := block_cell qk
    go_upto_region 16 with fail
    generalize (w3.alloc (.cells #[.int .u8 q1, .int .u16 q2, .bool q3, .int .u8 q4, .int .u8 pr, .int .u32 qs, .int .u32 qd, .slice b7 l7 c7, .slice b8 dq.length c8] 26)).alloc (.cells #[.int .u8 pr, .int .u32 qs, .int .u32 qd, .int .u16 0, .int .u16 0] 29) = w4 at *
    generalize w3.heap.size = gq at *
    clear hq6 hq17 kq
    refine anyT_begin (R := But (fun b => b = gq + 1)) 10 rfl (by kernel_rfl) ?_
    have ld : Later w4 w4.drew := Later.drew w4
    have qWd := later_keep ld qk
    have tWd := later_keep ld tk
    have DWd := D3.ck (CK.of ld)
    generalize w4.drew = Wd at *
    have ha : ∀ v1, But (fun b => b = gq + 1) Wd v1 → ∀ i, v1.cell? ⟨gq, i, none⟩ = #[Value.int .u8 q1, .int .u16 q2, .bool q3, .int .u8 q4, .int .u8 pr, .int .u32 qs, .int .u32 qd, .slice b7 l7 c7, .slice b8 dq.length c8][i]? := fun v1 h => block_cell ((h.block gq (Array.getElem?_eq_some_iff.1 qWd).1 (by omega)).trans qWd)
    refine anyT_val (But.pre _) 0 rfl (by kernel_rfl) (by kernel_rfl) (by kernel_rfl) (fun _ _ _ _ h => h) rfl ?_; apply Exists.intro; refine ⟨fun v1 hv1 => ?_, ?_⟩; (· (go_simp; rfl)); simp only [Act.put, List.setIfInBounds_toArray, List.set_cons_zero, List.set_cons_succ]
    refine anyT_val (But.pre _) 1 rfl (by kernel_rfl) (by kernel_rfl) (by kernel_rfl) (fun _ _ _ _ h => h) rfl ?_; apply Exists.intro; refine ⟨fun v1 hv1 => ?_, ?_⟩; (· (go_simp; rfl)); simp only [Act.put, List.setIfInBounds_toArray, List.set_cons_zero, List.set_cons_succ]
    refine anyT_val (But.pre _) 3 rfl (by kernel_rfl) (by kernel_rfl) (by kernel_rfl) (fun _ _ _ _ h => h) rfl ?_; apply Exists.intro; refine ⟨fun v1 hv1 => ?_, ?_⟩; (· (go_simp; rfl)); simp only [Act.put, List.setIfInBounds_toArray, List.set_cons_zero, List.set_cons_succ]
    refine anyT_val (But.pre _) 4 rfl (by kernel_rfl) (by kernel_rfl) (by kernel_rfl) (fun _ _ _ _ h => h) rfl ?_; apply Exists.intro; refine ⟨fun v1 hv1 => ?_, ?_⟩; (· (go_simp; rfl)); simp only [Act.put, List.setIfInBounds_toArray, List.set_cons_zero, List.set_cons_succ]
    clear ha
    refine anyT_one 2 rfl (by kernel_rfl) rfl ?_
    refine wp_enter 65 #[.slice b8 dq.length c8, .int .i64 0] (by go_simp) ?_
    refine (rget16_at _ dq hBq 0 (by omega) hld Wd DWd.rd).mono ?_
    rintro e W5 ⟨rfl, nW5, eW5⟩
    have lW5 : Later Wd W5 := by rw [eW5]; exact below_draw (Later.refl Wd) nW5
    clear eW5
    have tW5 := later_keep lW5 tWd
    have DW5 := DWd.ck (CK.of lW5)
    refine ⟨But.of lW5, ?_⟩
    simp only [Act.put, List.setIfInBounds_toArray, List.set_cons_zero, List.set_cons_succ]
    refine anyT_val (But.pre _) 6 rfl (by kernel_rfl) (by kernel_rfl) (by kernel_rfl) (fun _ _ _ _ h => h) rfl ?_; apply Exists.intro; refine ⟨fun v1 hv1 => ?_, ?_⟩; (· (go_simp; rfl)); simp only [Act.put, List.setIfInBounds_toArray, List.set_cons_zero, List.set_cons_succ]
    refine anyT_one 5 rfl (by kernel_rfl) rfl ?_
    refine wp_enter 65 #[.slice b8 dq.length c8, .int .i64 2] (by go_simp) ?_
    refine (rget16_at _ dq hBq 2 (by omega) hld W5 DW5.rd).mono ?_
    rintro e W6 ⟨rfl, nW6, eW6⟩
    have lW6 : Later W5 W6 := by rw [eW6]; exact below_draw (Later.refl W5) nW6
    clear eW6
    have tW6 := later_keep lW6 tW5
    have DW6 := DW5.ck (CK.of lW6)
    refine ⟨But.of lW6, ?_⟩
    simp only [Act.put, List.setIfInBounds_toArray, List.set_cons_zero, List.set_cons_succ]
    generalize hg0 : getAt2 dq 0 = g0 at *
    generalize hg2 : getAt2 dq 2 = g2 at *
    have HG0 := hide hg0
    have HG2 := hide hg2
    clear hg0 hg2
    have kx := block_cell tW6
    have fx := block_frozen tW6
    refine anyT_one 7 rfl (by kernel_rfl) rfl ?_
    unfold Oper.wp
    go_simp
    generalize hV : W6.setCell ⟨gq + 1, 3, none⟩ _ = V7
    have tV := heap_set1 tW6 3 (.int .u16 g0)
    rw [hV] at tV
    have hbV7 : But (fun b => b = gq + 1) W6 V7 := by rw [← hV]; exact (But.refl (fun b => b = gq + 1) _).setCell (p := ⟨gq + 1, 3, none⟩) rfl _
    refine ⟨hbV7, ?_⟩
    clear hV kx fx
    simp only [List.setIfInBounds_toArray, List.set_cons_zero, List.set_cons_succ] at tV
    refine anyT_val (But.pre _) 8 rfl (by kernel_rfl) (by kernel_rfl) (by kernel_rfl) (fun _ _ _ _ h => h) rfl ?_; apply Exists.intro; refine ⟨fun v1 hv1 => ?_, ?_⟩; (· (go_simp; rfl)); simp only [Act.put, List.setIfInBounds_toArray, List.set_cons_zero, List.set_cons_succ]
    have kx := block_cell tV
    have fx := block_frozen tV
    refine anyT_one 9 rfl (by kernel_rfl) rfl ?_
    unfold Oper.wp
    go_simp
    generalize hV : V7.setCell ⟨gq + 1, 4, none⟩ _ = V8
    have tN := heap_set1 tV 4 (.int .u16 g2)
    rw [hV] at tN
    have hbV8 : But (fun b => b = gq + 1) V7 V8 := by rw [← hV]; exact (But.refl (fun b => b = gq + 1) _).setCell (p := ⟨gq + 1, 4, none⟩) rfl _
    refine ⟨hbV8, ?_⟩
    clear hV kx fx
    simp only [List.setIfInBounds_toArray, List.set_cons_zero, List.set_cons_succ] at tN
    refine anyT_done (by kernel_rfl) ?_
    have hbN : But (fun b => b = gq + 1) w4 V8 := (But.of (ld.trans (lW5.trans lW6))).trans (hbV7.trans hbV8)
    have qN := (hbN.block gq (Array.getElem?_eq_some_iff.1 qk).1 (by omega)).trans qk
    have rN := (hbN.block (w.heap.size + 1) (Array.getElem?_eq_some_iff.1 r3).1 (by omega)).trans r3
    have sN := (hbN.block (w.heap.size + 1 + 1) (Array.getElem?_eq_some_iff.1 s3).1 (by omega)).trans s3
    have hwN : Below w.heap.size w V8 := hw3.trans (hbN.below hw3.size (fun k hk e => by omega))
    clear ld
    go_upto_region 26 with fail
    refine anyT_begin (R := But (fun b => b = w.heap.size + 1 ∨ b = w.heap.size + 1 + 1)) 5 rfl (by kernel_rfl) ?_
    have ld : Later V8 V8.drew := Later.drew V8
    have qd0 := later_keep ld qN
    have td0 := later_keep ld tN
    have rd0 := later_keep ld rN
    have sd0 := later_keep ld sN
    have hwd := hwN.trans (ld.mono hwN.size)
    generalize V8.drew = Wd at *
    have ha : ∀ v1, But (fun b => b = w.heap.size + 1 ∨ b = w.heap.size + 1 + 1) Wd v1 → ∀ i, v1.cell? ⟨gq, i, none⟩ = #[Value.int .u8 q1, .int .u16 q2, .bool q3, .int .u8 q4, .int .u8 pr, .int .u32 qs, .int .u32 qd, .slice b7 l7 c7, .slice b8 dq.length c8][i]? := fun v1 h => block_cell ((h.block gq (Array.getElem?_eq_some_iff.1 qd0).1 (by omega)).trans qd0)
    have hb : ∀ v1, But (fun b => b = w.heap.size + 1 ∨ b = w.heap.size + 1 + 1) Wd v1 → ∀ i, v1.cell? ⟨gq + 1, i, none⟩ = #[Value.int .u8 pr, .int .u32 qs, .int .u32 qd, .int .u16 g0, .int .u16 g2][i]? := fun v1 h => block_cell ((h.block (gq + 1) (Array.getElem?_eq_some_iff.1 td0).1 (by omega)).trans td0)
    refine anyT_val (But.pre _) 0 rfl (by kernel_rfl) (by kernel_rfl) (by kernel_rfl) (fun _ _ _ _ h => h) rfl ?_; apply Exists.intro; refine ⟨fun v1 hv1 => ?_, ?_⟩; (· (go_simp; rfl)); simp only [Act.put, List.setIfInBounds_toArray, List.set_cons_zero, List.set_cons_succ]
    refine anyT_val (But.pre _) 1 rfl (by kernel_rfl) (by kernel_rfl) (by kernel_rfl) (fun _ _ _ _ h => h) rfl ?_; apply Exists.intro; refine ⟨fun v1 hv1 => ?_, ?_⟩; (· (go_simp; rfl)); simp only [Act.put, List.setIfInBounds_toArray, List.set_cons_zero, List.set_cons_succ]
    clear ha hb
    have kx := block_cell rd0
    have fx := block_frozen rd0
    refine anyT_one 2 rfl (by kernel_rfl) rfl ?_
    unfold Oper.wp
    go_simp
    generalize hV1 : ((((((((Wd.setCell ⟨w.heap.size + 1, 0, none⟩ _).setCell ⟨w.heap.size + 1, 1, none⟩ _).setCell ⟨w.heap.size + 1, 2, none⟩ _).setCell ⟨w.heap.size + 1, 3, none⟩ _).setCell ⟨w.heap.size + 1, 4, none⟩ _).setCell ⟨w.heap.size + 1, 5, none⟩ _).setCell ⟨w.heap.size + 1, 6, none⟩ _).setCell ⟨w.heap.size + 1, 7, none⟩ _).setCell ⟨w.heap.size + 1, 8, none⟩ _ = Y0
    have hV9 : Y0 = putRow Wd (w.heap.size + 1) 0 [.int .u8 q1, .int .u16 q2, .bool q3, .int .u8 q4, .int .u8 pr, .int .u32 qs, .int .u32 qd, .slice b7 l7 c7, .slice b8 dq.length c8] := hV1.symm
    have hbY0 : But (fun b => b = w.heap.size + 1) Wd Y0 := by rw [hV9]; exact putRow_but (E := fun b => b = w.heap.size + 1) (n := w.heap.size + 1) rfl _ _ _ _ (But.refl _ _)
    have hbY1 : But (fun b => b = w.heap.size + 1 ∨ b = w.heap.size + 1 + 1) Wd Y0 := by rw [hV9]; exact putRow_but (E := fun b => b = w.heap.size + 1 ∨ b = w.heap.size + 1 + 1) (n := w.heap.size + 1) (.inl rfl) _ _ _ _ (But.refl _ _)
    have pY0 := putRow_all ([.int .u8 q1, .int .u16 q2, .bool q3, .int .u8 q4, .int .u8 pr, .int .u32 qs, .int .u32 qd, .slice b7 l7 c7, .slice b8 dq.length c8] : List Value) rd0 rfl
    rw [← hV9] at pY0
    have sY0 := (hbY0.block (w.heap.size + 1 + 1) (Array.getElem?_eq_some_iff.1 sd0).1 (by omega)).trans sd0
    refine ⟨hbY1, ?_⟩
    clear hV1 hV9 kx fx
    have kx := block_cell sY0
    have fx := block_frozen sY0
    refine anyT_one 3 rfl (by kernel_rfl) rfl ?_
    unfold Oper.wp
    go_simp
    generalize hV2 : ((((Y0.setCell ⟨w.heap.size + 1 + 1, 0, none⟩ _).setCell ⟨w.heap.size + 1 + 1, 1, none⟩ _).setCell ⟨w.heap.size + 1 + 1, 2, none⟩ _).setCell ⟨w.heap.size + 1 + 1, 3, none⟩ _).setCell ⟨w.heap.size + 1 + 1, 4, none⟩ _ = V
    have hV8 : V = putRow Y0 (w.heap.size + 1 + 1) 0 [.int .u8 pr, .int .u32 qs, .int .u32 qd, .int .u16 g0, .int .u16 g2] := hV2.symm
    have hbV : But (fun b => b = w.heap.size + 1 + 1) Y0 V := by rw [hV8]; exact putRow_but (E := fun b => b = w.heap.size + 1 + 1) (n := w.heap.size + 1 + 1) rfl _ _ _ _ (But.refl _ _)
    have hbV1 : But (fun b => b = w.heap.size + 1 ∨ b = w.heap.size + 1 + 1) Y0 V := by rw [hV8]; exact putRow_but (E := fun b => b = w.heap.size + 1 ∨ b = w.heap.size + 1 + 1) (n := w.heap.size + 1 + 1) (.inr rfl) _ _ _ _ (But.refl _ _)
    have qV := putRow_all ([.int .u8 pr, .int .u32 qs, .int .u32 qd, .int .u16 g0, .int .u16 g2] : List Value) sY0 rfl
    rw [← hV8] at qV
    have pV := (hbV.block (w.heap.size + 1) (Array.getElem?_eq_some_iff.1 pY0).1 (by omega)).trans pY0
    refine ⟨hbV1, ?_⟩
    clear hV2 hV8 kx fx
    refine anyT_one 4 rfl (by kernel_rfl) rfl ?_
    unfold Oper.wp
    go_simp
    refine ⟨But.refl _ _, ?_⟩
    refine anyT_done (by kernel_rfl) ?_
    have PV := block_cell pV
    have QV := block_cell qV
    have hwV : Below w.heap.size w V := (hwd.trans (hbY0.below hwd.size (fun k hk e => by omega))).trans (hbV.below (Nat.le_trans hwd.size hbY0.size) (fun k hk e => by omega))
    go_wp2_with fail
    exact bodyPost_ret (v := .tuple #[.agg #[.int .u8 q1, .int .u16 q2, .bool q3, .int .u8 q4, .int .u8 pr, .int .u32 qs, .int .u32 qd, .slice b7 l7 c7, .slice b8 dq.length c8], .agg #[.int .u8 pr, .int .u32 qs, .int .u32 qd, .int .u16 g0, .int .u16 g2], .int .i64 0]) (by simp [results, Tryz.results23, go_sem, PV, QV]) rfl ⟨hwV, by rw [HDQ.out, HG0.out, HG2.out, HQS.out, HQD.out]; exact rin_mk _ _ _ _ _ _ _ _ _ _ _ _ _ _ _⟩

set_option maxHeartbeats 8000000 in
theorem rinner_udp (pr : Int) (tos id ttl src dst : Int) (keep : Bool) (so sd : Value) (zd : List Int) (w : World) (hB : Mt.By zd) (hI : Rd w.heap.size w sd zd) (hl : zd.length ≤ 1099511627776) (hpi : pie 1 zd = 0) (her : erb (zd[0]?.getD 0) = true) (hrd : rde true (zd.drop 8) = 0) (hpr : (zd.drop 8)[9]?.getD 0 = pr) (h8 : 8 ≤ (qdt (zd.drop 8)).length) (hld : (qdt (zd.drop 8)).length ≤ 140737488355328) (hp : pr = 17) : Calls Tryz.prog 23 #[.agg #[.int .u8 tos, .int .u16 id, .bool keep, .int .u8 ttl, .int .u8 1, .int .u32 src, .int .u32 dst, so, sd]] w fun e w' => Below w.heap.size w w' ∧ rin (.agg #[.int .u8 pr, .int .u32 (wat4 (zd.drop 8) 12), .int .u32 (wat4 (zd.drop 8) 16), .int .u16 (getAt2 (qdt (zd.drop 8)) 0), .int .u16 (getAt2 (qdt (zd.drop 8)) 2)]) 0 e := by
  obtain ⟨ad, cd, rfl, _, _⟩ := hI.slice
  have hb0 : Below w.heap.size w (((w.alloc (.cells #[.int .u8 tos, .int .u16 id, .bool keep, .int .u8 ttl, .int .u8 1, .int .u32 src, .int .u32 dst, so, .slice ad zd.length cd] 26)).alloc (.cells #[.int .u8 0, .int .u16 0, .bool false, .int .u8 0, .int .u8 0, .int .u32 0, .int .u32 0, .slice none 0 0, .slice none 0 0] 26)).alloc (.cells #[.int .u8 0, .int .u32 0, .int .u32 0, .int .u16 0, .int .u16 0] 29)) := ((((Below.refl _ _).alloc (Nat.le_refl _) _).alloc (by simp) _).alloc (by simp <;> omega) _)
  have r0 : (((w.alloc (.cells #[.int .u8 tos, .int .u16 id, .bool keep, .int .u8 ttl, .int .u8 1, .int .u32 src, .int .u32 dst, so, .slice ad zd.length cd] 26)).alloc (.cells #[.int .u8 0, .int .u16 0, .bool false, .int .u8 0, .int .u8 0, .int .u32 0, .int .u32 0, .slice none 0 0, .slice none 0 0] 26)).alloc (.cells #[.int .u8 0, .int .u32 0, .int .u32 0, .int .u16 0, .int .u16 0] 29)).heap[w.heap.size + 1]? = some (.cells #[.int .u8 0, .int .u16 0, .bool false, .int .u8 0, .int .u8 0, .int .u32 0, .int .u32 0, .slice none 0 0, .slice none 0 0] 26) := by
    have := heap_alloc_new (w.alloc (.cells #[.int .u8 tos, .int .u16 id, .bool keep, .int .u8 ttl, .int .u8 1, .int .u32 src, .int .u32 dst, so, .slice ad zd.length cd] 26)) (.cells #[.int .u8 0, .int .u16 0, .bool false, .int .u8 0, .int .u8 0, .int .u32 0, .int .u32 0, .slice none 0 0, .slice none 0 0] 26)
    rw [World.size_alloc] at this
    exact (Below.heap_alloc _ _ _ (by simp)).trans this
  have s0 : (((w.alloc (.cells #[.int .u8 tos, .int .u16 id, .bool keep, .int .u8 ttl, .int .u8 1, .int .u32 src, .int .u32 dst, so, .slice ad zd.length cd] 26)).alloc (.cells #[.int .u8 0, .int .u16 0, .bool false, .int .u8 0, .int .u8 0, .int .u32 0, .int .u32 0, .slice none 0 0, .slice none 0 0] 26)).alloc (.cells #[.int .u8 0, .int .u32 0, .int .u32 0, .int .u16 0, .int .u16 0] 29)).heap[w.heap.size + 1 + 1]? = some (.cells #[.int .u8 0, .int .u32 0, .int .u32 0, .int .u16 0, .int .u16 0] 29) := by
    have := heap_alloc_new ((w.alloc (.cells #[.int .u8 tos, .int .u16 id, .bool keep, .int .u8 ttl, .int .u8 1, .int .u32 src, .int .u32 dst, so, .slice ad zd.length cd] 26)).alloc (.cells #[.int .u8 0, .int .u16 0, .bool false, .int .u8 0, .int .u8 0, .int .u32 0, .int .u32 0, .slice none 0 0, .slice none 0 0] 26)) (.cells #[.int .u8 0, .int .u32 0, .int .u32 0, .int .u16 0, .int .u16 0] 29)
    simpa only [World.size_alloc] using this
  have R0 := hide r0
  have S0 := hide s0
  clear r0 s0
  go_enter Tryz.func23, Tryz.ntmps23
  go_wp2_with fail
  generalize (((w.alloc (.cells #[.int .u8 tos, .int .u16 id, .bool keep, .int .u8 ttl, .int .u8 1, .int .u32 src, .int .u32 dst, so, .slice ad zd.length cd] 26)).alloc (.cells #[.int .u8 0, .int .u16 0, .bool false, .int .u8 0, .int .u8 0, .int .u32 0, .int .u32 0, .slice none 0 0, .slice none 0 0] 26)).alloc (.cells #[.int .u8 0, .int .u32 0, .int .u32 0, .int .u16 0, .int .u16 0] 29)) = w0 at *
  refine (rparseIcmp_any tos id ttl 1 src dst keep _ _ zd w0 hB ((hI.below hb0).mono hb0.size) hl).mono ?_
  rintro e w1 ⟨hb1, ⟨hf, rfl⟩ | ⟨hf, a1, c1, rfl, hO⟩⟩
  · exact absurd hpi hf
  · clear hf
    have la : Later w1 (w1.alloc (.cells #[.int .u8 (zd[0]?.getD 0), .int .u8 (zd[1]?.getD 0), .int .u32 (wat4 zd 4), .slice a1 (zd.length - 8) c1] 39)) := (Below.refl _ _).alloc (Nat.le_refl _) _
    have l1 := Later.trans hb1 la
    have mW := heap_alloc_new w1 (.cells #[.int .u8 (zd[0]?.getD 0), .int .u8 (zd[1]?.getD 0), .int .u32 (wat4 zd 4), .slice a1 (zd.length - 8) c1] 39)
    have rW := later_keep l1 R0.out
    have sW := later_keep l1 S0.out
    have hwW := hb0.trans (l1.mono hb0.size)
    have DW := hO.ck (CK.of la)
    go_wp2_with fail
    generalize w1.alloc (.cells #[.int .u8 (zd[0]?.getD 0), .int .u8 (zd[1]?.getD 0), .int .u32 (wat4 zd 4), .slice a1 (zd.length - 8) c1] 39) = W at *
    generalize w1.heap.size = gm at *
    refine (risError_any (zd[0]?.getD 0) (zd[1]?.getD 0) (wat4 zd 4) _ W).mono ?_
    rw [show (zd[0]?.getD 0 == 3 || (zd[0]?.getD 0 == 11 || zd[0]?.getD 0 == 12)) = true from her]
    rintro e w2 ⟨rfl, hb2⟩
    have l2 : Later W w2 := hb2
    have r2 := later_keep l2 rW
    have s2 := later_keep l2 sW
    have hw2 := hwW.trans (hb2.mono hwW.size)
    have km := block_cell (later_keep l2 mW)
    have D2 := DW.ck (CK.of l2)
    go_wp2_with fail
    clear km
    refine (rquote_any _ (zd.drop 8) w2 (hB.drop 8) (by simp; omega) D2.rd).mono ?_
    rintro e w3 ⟨hb3, ⟨hf3, _⟩ | ⟨_, qo, qs0, rfl, hO3, hD3⟩⟩
    · exact absurd hrd hf3
    obtain ⟨b7, c7, rfl, _, _⟩ := hO3.slice
    obtain ⟨b8, c8, rfl, hc8, hc9⟩ := hD3.slice
    have hBq := By_qdt (hB.drop 8)
    unfold pkt
    have HPR := hide hpr
    rw [hpr]
    clear hpr hpi her hrd
    generalize (zd.drop 8)[1]?.getD 0 = q1 at *
    generalize wat (zd.drop 8) 4 = q2 at *
    generalize decide (16384 ≤ wat (zd.drop 8) 6 % 32768) = q3 at *
    generalize (zd.drop 8)[8]?.getD 0 = q4 at *
    generalize hqs : wat4 (zd.drop 8) 12 = qs at *
    generalize hqd : wat4 (zd.drop 8) 16 = qd at *
    have HQS := hide hqs
    have HQD := hide hqd
    clear hqs hqd
    generalize (((zd.drop 8).take (hl4 (zd.drop 8)).toNat).drop 20).length = l7 at *
    clear hO3
    rw [show ((zd.drop 8).take (ral true (zd.drop 8)).toNat).drop (hl4 (zd.drop 8)).toNat = qdt (zd.drop 8) from rfl] at hD3 hc8 ⊢
    generalize hdq : qdt (zd.drop 8) = dq at *
    have HDQ := hide hdq
    clear hdq
    have la3 : Later w3 (w3.alloc (.cells #[.int .u8 q1, .int .u16 q2, .bool q3, .int .u8 q4, .int .u8 pr, .int .u32 qs, .int .u32 qd, .slice b7 l7 c7, .slice b8 dq.length c8] 26)) := (Below.refl _ _).alloc (Nat.le_refl _) _
    have lb3 : Later (w3.alloc (.cells #[.int .u8 q1, .int .u16 q2, .bool q3, .int .u8 q4, .int .u8 pr, .int .u32 qs, .int .u32 qd, .slice b7 l7 c7, .slice b8 dq.length c8] 26)) ((w3.alloc (.cells #[.int .u8 q1, .int .u16 q2, .bool q3, .int .u8 q4, .int .u8 pr, .int .u32 qs, .int .u32 qd, .slice b7 l7 c7, .slice b8 dq.length c8] 26)).alloc (.cells #[.int .u8 pr, .int .u32 qs, .int .u32 qd, .int .u16 0, .int .u16 0] 29)) := (Below.refl _ _).alloc (Nat.le_refl _) _
    have lab := la3.trans lb3
    have l3 := Later.trans hb3 lab
    have qk := later_keep lb3 (heap_alloc_new w3 (.cells #[.int .u8 q1, .int .u16 q2, .bool q3, .int .u8 q4, .int .u8 pr, .int .u32 qs, .int .u32 qd, .slice b7 l7 c7, .slice b8 dq.length c8] 26))
    have tk := heap_alloc_new (w3.alloc (.cells #[.int .u8 q1, .int .u16 q2, .bool q3, .int .u8 q4, .int .u8 pr, .int .u32 qs, .int .u32 qd, .slice b7 l7 c7, .slice b8 dq.length c8] 26)) (.cells #[.int .u8 pr, .int .u32 qs, .int .u32 qd, .int .u16 0, .int .u16 0] 29)
    rw [World.size_alloc] at tk
    have r3 := later_keep l3 r2
    have s3 := later_keep l3 s2
    have hw3 := hw2.trans (l3.mono hw2.size)
    have D3 := hD3.ck (CK.of lab)
    have hgq : w.heap.size + 1 + 1 < w3.heap.size := Nat.lt_of_lt_of_le (Array.getElem?_eq_some_iff.1 s2).1 hb3.size
    clear D2 hD3
    have HLQ : Hid (8 ≤ dq.length) := h8
    have hq6 : (pr == 6) = false := by simp [hp]
    have hq17 : (pr == 17) = true := by simp [hp]
    have HP := hide hp
    clear hp
    have kq := block_cell qk
    go_upto_region 16 with fail
    generalize (w3.alloc (.cells #[.int .u8 q1, .int .u16 q2, .bool q3, .int .u8 q4, .int .u8 pr, .int .u32 qs, .int .u32 qd, .slice b7 l7 c7, .slice b8 dq.length c8] 26)).alloc (.cells #[.int .u8 pr, .int .u32 qs, .int .u32 qd, .int .u16 0, .int .u16 0] 29) = w4 at *
    generalize w3.heap.size = gq at *
    clear hq6 hq17 kq
    refine anyT_begin (R := But (fun b => b = gq + 1)) 10 rfl (by kernel_rfl) ?_
    have ld : Later w4 w4.drew := Later.drew w4
    have qWd := later_keep ld qk
    have tWd := later_keep ld tk
    have DWd := D3.ck (CK.of ld)
    generalize w4.drew = Wd at *
    have ha : ∀ v1, But (fun b => b = gq + 1) Wd v1 → ∀ i, v1.cell? ⟨gq, i, none⟩ = #[Value.int .u8 q1, .int .u16 q2, .bool q3, .int .u8 q4, .int .u8 pr, .int .u32 qs, .int .u32 qd, .slice b7 l7 c7, .slice b8 dq.length c8][i]? := fun v1 h => block_cell ((h.block gq (Array.getElem?_eq_some_iff.1 qWd).1 (by omega)).trans qWd)
    refine anyT_val (But.pre _) 0 rfl (by kernel_rfl) (by kernel_rfl) (by kernel_rfl) (fun _ _ _ _ h => h) rfl ?_; apply Exists.intro; refine ⟨fun v1 hv1 => ?_, ?_⟩; (· (go_simp; rfl)); simp only [Act.put, List.setIfInBounds_toArray, List.set_cons_zero, List.set_cons_succ]
    refine anyT_val (But.pre _) 1 rfl (by kernel_rfl) (by kernel_rfl) (by kernel_rfl) (fun _ _ _ _ h => h) rfl ?_; apply Exists.intro; refine ⟨fun v1 hv1 => ?_, ?_⟩; (· (go_simp; rfl)); simp only [Act.put, List.setIfInBounds_toArray, List.set_cons_zero, List.set_cons_succ]
    refine anyT_val (But.pre _) 3 rfl (by kernel_rfl) (by kernel_rfl) (by kernel_rfl) (fun _ _ _ _ h => h) rfl ?_; apply Exists.intro; refine ⟨fun v1 hv1 => ?_, ?_⟩; (· (go_simp; rfl)); simp only [Act.put, List.setIfInBounds_toArray, List.set_cons_zero, List.set_cons_succ]
    refine anyT_val (But.pre _) 4 rfl (by kernel_rfl) (by kernel_rfl) (by kernel_rfl) (fun _ _ _ _ h => h) rfl ?_; apply Exists.intro; refine ⟨fun v1 hv1 => ?_, ?_⟩; (· (go_simp; rfl)); simp only [Act.put, List.setIfInBounds_toArray, List.set_cons_zero, List.set_cons_succ]
    clear ha
    refine anyT_one 2 rfl (by kernel_rfl) rfl ?_
    refine wp_enter 65 #[.slice b8 dq.length c8, .int .i64 0] (by go_simp) ?_
    refine (rget16_at _ dq hBq 0 (by omega) hld Wd DWd.rd).mono ?_
    rintro e W5 ⟨rfl, nW5, eW5⟩
    have lW5 : Later Wd W5 := by rw [eW5]; exact below_draw (Later.refl Wd) nW5
    clear eW5
    have tW5 := later_keep lW5 tWd
    have DW5 := DWd.ck (CK.of lW5)
    refine ⟨But.of lW5, ?_⟩
    simp only [Act.put, List.setIfInBounds_toArray, List.set_cons_zero, List.set_cons_succ]
    refine anyT_val (But.pre _) 6 rfl (by kernel_rfl) (by kernel_rfl) (by kernel_rfl) (fun _ _ _ _ h => h) rfl ?_; apply Exists.intro; refine ⟨fun v1 hv1 => ?_, ?_⟩; (· (go_simp; rfl)); simp only [Act.put, List.setIfInBounds_toArray, List.set_cons_zero, List.set_cons_succ]
    refine anyT_one 5 rfl (by kernel_rfl) rfl ?_
    refine wp_enter 65 #[.slice b8 dq.length c8, .int .i64 2] (by go_simp) ?_
    refine (rget16_at _ dq hBq 2 (by omega) hld W5 DW5.rd).mono ?_
    rintro e W6 ⟨rfl, nW6, eW6⟩
    have lW6 : Later W5 W6 := by rw [eW6]; exact below_draw (Later.refl W5) nW6
    clear eW6
    have tW6 := later_keep lW6 tW5
    have DW6 := DW5.ck (CK.of lW6)
    refine ⟨But.of lW6, ?_⟩
    simp only [Act.put, List.setIfInBounds_toArray, List.set_cons_zero, List.set_cons_succ]
    generalize hg0 : getAt2 dq 0 = g0 at *
    generalize hg2 : getAt2 dq 2 = g2 at *
    have HG0 := hide hg0
    have HG2 := hide hg2
    clear hg0 hg2
    have kx := block_cell tW6
    have fx := block_frozen tW6
    refine anyT_one 7 rfl (by kernel_rfl) rfl ?_
    unfold Oper.wp
    go_simp
    generalize hV : W6.setCell ⟨gq + 1, 3, none⟩ _ = V7
    have tV := heap_set1 tW6 3 (.int .u16 g0)
    rw [hV] at tV
    have hbV7 : But (fun b => b = gq + 1) W6 V7 := by rw [← hV]; exact (But.refl (fun b => b = gq + 1) _).setCell (p := ⟨gq + 1, 3, none⟩) rfl _
    refine ⟨hbV7, ?_⟩
    clear hV kx fx
    simp only [List.setIfInBounds_toArray, List.set_cons_zero, List.set_cons_succ] at tV
    refine anyT_val (But.pre _) 8 rfl (by kernel_rfl) (by kernel_rfl) (by kernel_rfl) (fun _ _ _ _ h => h) rfl ?_; apply Exists.intro; refine ⟨fun v1 hv1 => ?_, ?_⟩; (· (go_simp; rfl)); simp only [Act.put, List.setIfInBounds_toArray, List.set_cons_zero, List.set_cons_succ]
    have kx := block_cell tV
    have fx := block_frozen tV
    refine anyT_one 9 rfl (by kernel_rfl) rfl ?_
    unfold Oper.wp
    go_simp
    generalize hV : V7.setCell ⟨gq + 1, 4, none⟩ _ = V8
    have tN := heap_set1 tV 4 (.int .u16 g2)
    rw [hV] at tN
    have hbV8 : But (fun b => b = gq + 1) V7 V8 := by rw [← hV]; exact (But.refl (fun b => b = gq + 1) _).setCell (p := ⟨gq + 1, 4, none⟩) rfl _
    refine ⟨hbV8, ?_⟩
    clear hV kx fx
    simp only [List.setIfInBounds_toArray, List.set_cons_zero, List.set_cons_succ] at tN
    refine anyT_done (by kernel_rfl) ?_
    have hbN : But (fun b => b = gq + 1) w4 V8 := (But.of (ld.trans (lW5.trans lW6))).trans (hbV7.trans hbV8)
    have qN := (hbN.block gq (Array.getElem?_eq_some_iff.1 qk).1 (by omega)).trans qk
    have rN := (hbN.block (w.heap.size + 1) (Array.getElem?_eq_some_iff.1 r3).1 (by omega)).trans r3
    have sN := (hbN.block (w.heap.size + 1 + 1) (Array.getElem?_eq_some_iff.1 s3).1 (by omega)).trans s3
    have hwN : Below w.heap.size w V8 := hw3.trans (hbN.below hw3.size (fun k hk e => by omega))
    clear ld
    go_upto_region 26 with fail
    refine anyT_begin (R := But (fun b => b = w.heap.size + 1 ∨ b = w.heap.size + 1 + 1)) 5 rfl (by kernel_rfl) ?_
    have ld : Later V8 V8.drew := Later.drew V8
    have qd0 := later_keep ld qN
    have td0 := later_keep ld tN
    have rd0 := later_keep ld rN
    have sd0 := later_keep ld sN
    have hwd := hwN.trans (ld.mono hwN.size)
    generalize V8.drew = Wd at *
    have ha : ∀ v1, But (fun b => b = w.heap.size + 1 ∨ b = w.heap.size + 1 + 1) Wd v1 → ∀ i, v1.cell? ⟨gq, i, none⟩ = #[Value.int .u8 q1, .int .u16 q2, .bool q3, .int .u8 q4, .int .u8 pr, .int .u32 qs, .int .u32 qd, .slice b7 l7 c7, .slice b8 dq.length c8][i]? := fun v1 h => block_cell ((h.block gq (Array.getElem?_eq_some_iff.1 qd0).1 (by omega)).trans qd0)
    have hb : ∀ v1, But (fun b => b = w.heap.size + 1 ∨ b = w.heap.size + 1 + 1) Wd v1 → ∀ i, v1.cell? ⟨gq + 1, i, none⟩ = #[Value.int .u8 pr, .int .u32 qs, .int .u32 qd, .int .u16 g0, .int .u16 g2][i]? := fun v1 h => block_cell ((h.block (gq + 1) (Array.getElem?_eq_some_iff.1 td0).1 (by omega)).trans td0)
    refine anyT_val (But.pre _) 0 rfl (by kernel_rfl) (by kernel_rfl) (by kernel_rfl) (fun _ _ _ _ h => h) rfl ?_; apply Exists.intro; refine ⟨fun v1 hv1 => ?_, ?_⟩; (· (go_simp; rfl)); simp only [Act.put, List.setIfInBounds_toArray, List.set_cons_zero, List.set_cons_succ]
    refine anyT_val (But.pre _) 1 rfl (by kernel_rfl) (by kernel_rfl) (by kernel_rfl) (fun _ _ _ _ h => h) rfl ?_; apply Exists.intro; refine ⟨fun v1 hv1 => ?_, ?_⟩; (· (go_simp; rfl)); simp only [Act.put, List.setIfInBounds_toArray, List.set_cons_zero, List.set_cons_succ]
    clear ha hb
    have kx := block_cell rd0
    have fx := block_frozen rd0
    refine anyT_one 2 rfl (by kernel_rfl) rfl ?_
    unfold Oper.wp
    go_simp
    generalize hV1 : ((((((((Wd.setCell ⟨w.heap.size + 1, 0, none⟩ _).setCell ⟨w.heap.size + 1, 1, none⟩ _).setCell ⟨w.heap.size + 1, 2, none⟩ _).setCell ⟨w.heap.size + 1, 3, none⟩ _).setCell ⟨w.heap.size + 1, 4, none⟩ _).setCell ⟨w.heap.size + 1, 5, none⟩ _).setCell ⟨w.heap.size + 1, 6, none⟩ _).setCell ⟨w.heap.size + 1, 7, none⟩ _).setCell ⟨w.heap.size + 1, 8, none⟩ _ = Y0
    have hV9 : Y0 = putRow Wd (w.heap.size + 1) 0 [.int .u8 q1, .int .u16 q2, .bool q3, .int .u8 q4, .int .u8 pr, .int .u32 qs, .int .u32 qd, .slice b7 l7 c7, .slice b8 dq.length c8] := hV1.symm
    have hbY0 : But (fun b => b = w.heap.size + 1) Wd Y0 := by rw [hV9]; exact putRow_but (E := fun b => b = w.heap.size + 1) (n := w.heap.size + 1) rfl _ _ _ _ (But.refl _ _)
    have hbY1 : But (fun b => b = w.heap.size + 1 ∨ b = w.heap.size + 1 + 1) Wd Y0 := by rw [hV9]; exact putRow_but (E := fun b => b = w.heap.size + 1 ∨ b = w.heap.size + 1 + 1) (n := w.heap.size + 1) (.inl rfl) _ _ _ _ (But.refl _ _)
    have pY0 := putRow_all ([.int .u8 q1, .int .u16 q2, .bool q3, .int .u8 q4, .int .u8 pr, .int .u32 qs, .int .u32 qd, .slice b7 l7 c7, .slice b8 dq.length c8] : List Value) rd0 rfl
    rw [← hV9] at pY0
    have sY0 := (hbY0.block (w.heap.size + 1 + 1) (Array.getElem?_eq_some_iff.1 sd0).1 (by omega)).trans sd0
    refine ⟨hbY1, ?_⟩
    clear hV1 hV9 kx fx
    have kx := block_cell sY0
    have fx := block_frozen sY0
    refine anyT_one 3 rfl (by kernel_rfl) rfl ?_
    unfold Oper.wp
    go_simp
    generalize hV2 : ((((Y0.setCell ⟨w.heap.size + 1 + 1, 0, none⟩ _).setCell ⟨w.heap.size + 1 + 1, 1, none⟩ _).setCell ⟨w.heap.size + 1 + 1, 2, none⟩ _).setCell ⟨w.heap.size + 1 + 1, 3, none⟩ _).setCell ⟨w.heap.size + 1 + 1, 4, none⟩ _ = V
    have hV8 : V = putRow Y0 (w.heap.size + 1 + 1) 0 [.int .u8 pr, .int .u32 qs, .int .u32 qd, .int .u16 g0, .int .u16 g2] := hV2.symm
    have hbV : But (fun b => b = w.heap.size + 1 + 1) Y0 V := by rw [hV8]; exact putRow_but (E := fun b => b = w.heap.size + 1 + 1) (n := w.heap.size + 1 + 1) rfl _ _ _ _ (But.refl _ _)
    have hbV1 : But (fun b => b = w.heap.size + 1 ∨ b = w.heap.size + 1 + 1) Y0 V := by rw [hV8]; exact putRow_but (E := fun b => b = w.heap.size + 1 ∨ b = w.heap.size + 1 + 1) (n := w.heap.size + 1 + 1) (.inr rfl) _ _ _ _ (But.refl _ _)
    have qV := putRow_all ([.int .u8 pr, .int .u32 qs, .int .u32 qd, .int .u16 g0, .int .u16 g2] : List Value) sY0 rfl
    rw [← hV8] at qV
    have pV := (hbV.block (w.heap.size + 1) (Array.getElem?_eq_some_iff.1 pY0).1 (by omega)).trans pY0
    refine ⟨hbV1, ?_⟩
    clear hV2 hV8 kx fx
    refine anyT_one 4 rfl (by kernel_rfl) rfl ?_
    unfold Oper.wp
    go_simp
    refine ⟨But.refl _ _, ?_⟩
    refine anyT_done (by kernel_rfl) ?_
    have PV := block_cell pV
    have QV := block_cell qV
    have hwV : Below w.heap.size w V := (hwd.trans (hbY0.below hwd.size (fun k hk e => by omega))).trans (hbV.below (Nat.le_trans hwd.size hbY0.size) (fun k hk e => by omega))
    go_wp2_with fail
    exact bodyPost_ret (v := .tuple #[.agg #[.int .u8 q1, .int .u16 q2, .bool q3, .int .u8 q4, .int .u8 pr, .int .u32 qs, .int .u32 qd, .slice b7 l7 c7, .slice b8 dq.length c8], .agg #[.int .u8 pr, .int .u32 qs, .int .u32 qd, .int .u16 g0, .int .u16 g2], .int .i64 0]) (by simp [results, Tryz.results23, go_sem, PV, QV]) rfl ⟨hwV, by rw [HDQ.out, HG0.out, HG2.out, HQS.out, HQD.out]; exact rin_mk _ _ _ _ _ _ _ _ _ _ _ _ _ _ _⟩
end Go.Proofs.YtdabhbadcbnkhaaGreatDoor

/- The document's Inner: messages, frames, others. -/
namespace Go.Proofs.YtdabhbadcbnkhaaGreatDoor
open Go.RowKit Go.Shelf
set_option maxRecDepth 100000
set_option linter.unusedVariables false
set_option linter.unusedSimpArgs false

set_option maxHeartbeats 8000000 in
theorem rinner_icmp (pr : Int) (tos id ttl src dst : Int) (keep : Bool) (so sd : Value) (zd : List Int) (w : World) (hB : Mt.By zd) (hI : Rd w.heap.size w sd zd) (hl : zd.length ≤ 1099511627776) (hpi : pie 1 zd = 0) (her : erb (zd[0]?.getD 0) = true) (hrd : rde true (zd.drop 8) = 0) (hpr : (zd.drop 8)[9]?.getD 0 = pr) (h8 : 8 ≤ (qdt (zd.drop 8)).length) (hld : (qdt (zd.drop 8)).length ≤ 140737488355328) (hp : pr = 1) (hec : ecb ((qdt (zd.drop 8))[0]?.getD 0) ((qdt (zd.drop 8))[1]?.getD 0) = true) : Calls Tryz.prog 23 #[.agg #[.int .u8 tos, .int .u16 id, .bool keep, .int .u8 ttl, .int .u8 1, .int .u32 src, .int .u32 dst, so, sd]] w fun e w' => Below w.heap.size w w' ∧ rin (.agg #[.int .u8 pr, .int .u32 (wat4 (zd.drop 8) 12), .int .u32 (wat4 (zd.drop 8) 16), .int .u16 (getAt2 (qdt (zd.drop 8)) 4), .int .u16 (getAt2 (qdt (zd.drop 8)) 4)]) 0 e := by
  have hd1 : (qdt (zd.drop 8))[1]?.getD 0 = 0 := by unfold ecb at hec; simp at hec; exact hec.2
  have hd0 : (qdt (zd.drop 8))[0]?.getD 0 = 8 ∨ (qdt (zd.drop 8))[0]?.getD 0 = 0 := by unfold ecb at hec; simp at hec; exact hec.1
  clear hec
  obtain ⟨e0v, he0⟩ : ∃ e0v, (qdt (zd.drop 8))[0]?.getD 0 = e0v := ⟨_, rfl⟩
  have HD1 := hide hd1
  have HD0 := hide hd0
  clear hd1 hd0 he0
  obtain ⟨ad, cd, rfl, _, _⟩ := hI.slice
  have hb0 : Below w.heap.size w (((w.alloc (.cells #[.int .u8 tos, .int .u16 id, .bool keep, .int .u8 ttl, .int .u8 1, .int .u32 src, .int .u32 dst, so, .slice ad zd.length cd] 26)).alloc (.cells #[.int .u8 0, .int .u16 0, .bool false, .int .u8 0, .int .u8 0, .int .u32 0, .int .u32 0, .slice none 0 0, .slice none 0 0] 26)).alloc (.cells #[.int .u8 0, .int .u32 0, .int .u32 0, .int .u16 0, .int .u16 0] 29)) := ((((Below.refl _ _).alloc (Nat.le_refl _) _).alloc (by simp) _).alloc (by simp <;> omega) _)
  have r0 : (((w.alloc (.cells #[.int .u8 tos, .int .u16 id, .bool keep, .int .u8 ttl, .int .u8 1, .int .u32 src, .int .u32 dst, so, .slice ad zd.length cd] 26)).alloc (.cells #[.int .u8 0, .int .u16 0, .bool false, .int .u8 0, .int .u8 0, .int .u32 0, .int .u32 0, .slice none 0 0, .slice none 0 0] 26)).alloc (.cells #[.int .u8 0, .int .u32 0, .int .u32 0, .int .u16 0, .int .u16 0] 29)).heap[w.heap.size + 1]? = some (.cells #[.int .u8 0, .int .u16 0, .bool false, .int .u8 0, .int .u8 0, .int .u32 0, .int .u32 0, .slice none 0 0, .slice none 0 0] 26) := by
    have := heap_alloc_new (w.alloc (.cells #[.int .u8 tos, .int .u16 id, .bool keep, .int .u8 ttl, .int .u8 1, .int .u32 src, .int .u32 dst, so, .slice ad zd.length cd] 26)) (.cells #[.int .u8 0, .int .u16 0, .bool false, .int .u8 0, .int .u8 0, .int .u32 0, .int .u32 0, .slice none 0 0, .slice none 0 0] 26)
    rw [World.size_alloc] at this
    exact (Below.heap_alloc _ _ _ (by simp)).trans this
  have s0 : (((w.alloc (.cells #[.int .u8 tos, .int .u16 id, .bool keep, .int .u8 ttl, .int .u8 1, .int .u32 src, .int .u32 dst, so, .slice ad zd.length cd] 26)).alloc (.cells #[.int .u8 0, .int .u16 0, .bool false, .int .u8 0, .int .u8 0, .int .u32 0, .int .u32 0, .slice none 0 0, .slice none 0 0] 26)).alloc (.cells #[.int .u8 0, .int .u32 0, .int .u32 0, .int .u16 0, .int .u16 0] 29)).heap[w.heap.size + 1 + 1]? = some (.cells #[.int .u8 0, .int .u32 0, .int .u32 0, .int .u16 0, .int .u16 0] 29) := by
    have := heap_alloc_new ((w.alloc (.cells #[.int .u8 tos, .int .u16 id, .bool keep, .int .u8 ttl, .int .u8 1, .int .u32 src, .int .u32 dst, so, .slice ad zd.length cd] 26)).alloc (.cells #[.int .u8 0, .int .u16 0, .bool false, .int .u8 0, .int .u8 0, .int .u32 0, .int .u32 0, .slice none 0 0, .slice none 0 0] 26)) (.cells #[.int .u8 0, .int .u32 0, .int .u32 0, .int .u16 0, .int .u16 0] 29)
    simpa only [World.size_alloc] using this
  have R0 := hide r0
  have S0 := hide s0
  clear r0 s0
  go_enter Tryz.func23, Tryz.ntmps23
  go_wp2_with fail
  generalize (((w.alloc (.cells #[.int .u8 tos, .int .u16 id, .bool keep, .int .u8 ttl, .int .u8 1, .int .u32 src, .int .u32 dst, so, .slice ad zd.length cd] 26)).alloc (.cells #[.int .u8 0, .int .u16 0, .bool false, .int .u8 0, .int .u8 0, .int .u32 0, .int .u32 0, .slice none 0 0, .slice none 0 0] 26)).alloc (.cells #[.int .u8 0, .int .u32 0, .int .u32 0, .int .u16 0, .int .u16 0] 29)) = w0 at *
  refine (rparseIcmp_any tos id ttl 1 src dst keep _ _ zd w0 hB ((hI.below hb0).mono hb0.size) hl).mono ?_
  rintro e w1 ⟨hb1, ⟨hf, rfl⟩ | ⟨hf, a1, c1, rfl, hO⟩⟩
  · exact absurd hpi hf
  · clear hf
    have la : Later w1 (w1.alloc (.cells #[.int .u8 (zd[0]?.getD 0), .int .u8 (zd[1]?.getD 0), .int .u32 (wat4 zd 4), .slice a1 (zd.length - 8) c1] 39)) := (Below.refl _ _).alloc (Nat.le_refl _) _
    have l1 := Later.trans hb1 la
    have mW := heap_alloc_new w1 (.cells #[.int .u8 (zd[0]?.getD 0), .int .u8 (zd[1]?.getD 0), .int .u32 (wat4 zd 4), .slice a1 (zd.length - 8) c1] 39)
    have rW := later_keep l1 R0.out
    have sW := later_keep l1 S0.out
    have hwW := hb0.trans (l1.mono hb0.size)
    have DW := hO.ck (CK.of la)
    go_wp2_with fail
    generalize w1.alloc (.cells #[.int .u8 (zd[0]?.getD 0), .int .u8 (zd[1]?.getD 0), .int .u32 (wat4 zd 4), .slice a1 (zd.length - 8) c1] 39) = W at *
    generalize w1.heap.size = gm at *
    refine (risError_any (zd[0]?.getD 0) (zd[1]?.getD 0) (wat4 zd 4) _ W).mono ?_
    rw [show (zd[0]?.getD 0 == 3 || (zd[0]?.getD 0 == 11 || zd[0]?.getD 0 == 12)) = true from her]
    rintro e w2 ⟨rfl, hb2⟩
    have l2 : Later W w2 := hb2
    have r2 := later_keep l2 rW
    have s2 := later_keep l2 sW
    have hw2 := hwW.trans (hb2.mono hwW.size)
    have km := block_cell (later_keep l2 mW)
    have D2 := DW.ck (CK.of l2)
    go_wp2_with fail
    clear km
    refine (rquote_any _ (zd.drop 8) w2 (hB.drop 8) (by simp; omega) D2.rd).mono ?_
    rintro e w3 ⟨hb3, ⟨hf3, _⟩ | ⟨_, qo, qs0, rfl, hO3, hD3⟩⟩
    · exact absurd hrd hf3
    obtain ⟨b7, c7, rfl, _, _⟩ := hO3.slice
    obtain ⟨b8, c8, rfl, hc8, hc9⟩ := hD3.slice
    have hBq := By_qdt (hB.drop 8)
    unfold pkt
    have HPR := hide hpr
    rw [hpr]
    clear hpr hpi her hrd
    generalize (zd.drop 8)[1]?.getD 0 = q1 at *
    generalize wat (zd.drop 8) 4 = q2 at *
    generalize decide (16384 ≤ wat (zd.drop 8) 6 % 32768) = q3 at *
    generalize (zd.drop 8)[8]?.getD 0 = q4 at *
    generalize hqs : wat4 (zd.drop 8) 12 = qs at *
    generalize hqd : wat4 (zd.drop 8) 16 = qd at *
    have HQS := hide hqs
    have HQD := hide hqd
    clear hqs hqd
    generalize (((zd.drop 8).take (hl4 (zd.drop 8)).toNat).drop 20).length = l7 at *
    clear hO3
    rw [show ((zd.drop 8).take (ral true (zd.drop 8)).toNat).drop (hl4 (zd.drop 8)).toNat = qdt (zd.drop 8) from rfl] at hD3 hc8 ⊢
    generalize hdq : qdt (zd.drop 8) = dq at *
    have HDQ := hide hdq
    clear hdq
    have la3 : Later w3 (w3.alloc (.cells #[.int .u8 q1, .int .u16 q2, .bool q3, .int .u8 q4, .int .u8 pr, .int .u32 qs, .int .u32 qd, .slice b7 l7 c7, .slice b8 dq.length c8] 26)) := (Below.refl _ _).alloc (Nat.le_refl _) _
    have lb3 : Later (w3.alloc (.cells #[.int .u8 q1, .int .u16 q2, .bool q3, .int .u8 q4, .int .u8 pr, .int .u32 qs, .int .u32 qd, .slice b7 l7 c7, .slice b8 dq.length c8] 26)) ((w3.alloc (.cells #[.int .u8 q1, .int .u16 q2, .bool q3, .int .u8 q4, .int .u8 pr, .int .u32 qs, .int .u32 qd, .slice b7 l7 c7, .slice b8 dq.length c8] 26)).alloc (.cells #[.int .u8 pr, .int .u32 qs, .int .u32 qd, .int .u16 0, .int .u16 0] 29)) := (Below.refl _ _).alloc (Nat.le_refl _) _
    have lab := la3.trans lb3
    have l3 := Later.trans hb3 lab
    have qk := later_keep lb3 (heap_alloc_new w3 (.cells #[.int .u8 q1, .int .u16 q2, .bool q3, .int .u8 q4, .int .u8 pr, .int .u32 qs, .int .u32 qd, .slice b7 l7 c7, .slice b8 dq.length c8] 26))
    have tk := heap_alloc_new (w3.alloc (.cells #[.int .u8 q1, .int .u16 q2, .bool q3, .int .u8 q4, .int .u8 pr, .int .u32 qs, .int .u32 qd, .slice b7 l7 c7, .slice b8 dq.length c8] 26)) (.cells #[.int .u8 pr, .int .u32 qs, .int .u32 qd, .int .u16 0, .int .u16 0] 29)
    rw [World.size_alloc] at tk
    have r3 := later_keep l3 r2
    have s3 := later_keep l3 s2
    have hw3 := hw2.trans (l3.mono hw2.size)
    have D3 := hD3.ck (CK.of lab)
    have hgq : w.heap.size + 1 + 1 < w3.heap.size := Nat.lt_of_lt_of_le (Array.getElem?_eq_some_iff.1 s2).1 hb3.size
    clear D2 hD3
    have HLQ : Hid (8 ≤ dq.length) := h8
    have hq6 : (pr == 6) = false := by simp [hp]
    have hq17 : (pr == 17) = false := by simp [hp]
    have hq1 : (pr == 1) = true := by simp [hp]
    have hq47 : (pr == 47) = false := by simp [hp]
    have HP := hide hp
    clear hp
    have kq := block_cell qk
    go_upto_region 18 with fail
    generalize (w3.alloc (.cells #[.int .u8 q1, .int .u16 q2, .bool q3, .int .u8 q4, .int .u8 pr, .int .u32 qs, .int .u32 qd, .slice b7 l7 c7, .slice b8 dq.length c8] 26)).alloc (.cells #[.int .u8 pr, .int .u32 qs, .int .u32 qd, .int .u16 0, .int .u16 0] 29) = w4 at *
    generalize w3.heap.size = gq at *
    have h8q := HLQ.out
    have h8i : (8 : Int) ≤ dq.length := by omega
    obtain ⟨g8, rfl, _, _, hcs, _⟩ := D3.at (by omega)
    have kd0 := (hcs 0 (by omega)).1
    have kd1 := (hcs 1 (by omega)).1
    clear hcs
    rw [show dq[1]?.getD 0 = 0 from HD1.out] at kd1
    have hor : dq[0]?.getD 0 = 8 ∨ dq[0]?.getD 0 = 0 := HD0.out
    rcases hor with h0 | h0
    · rw [h0] at kd0
      clear h0
      go_upto_region 20 with fail
      clear hq6 hq17 hq1 hq47 kq
      clear kd0 kd1
      have kq := block_cell qk
      go_wp2_with fail
      clear kq
      refine (rget16_at _ dq hBq 4 (by omega) hld w4 D3.rd).mono ?_
      rintro e W5 ⟨rfl, n5, e5⟩
      have l5 : Later w4 W5 := by rw [e5]; exact below_draw (Later.refl w4) n5
      clear e5
      have t5 := later_keep l5 tk
      generalize hg4 : getAt2 dq 4 = g4 at *
      have HG4 := hide hg4
      clear hg4
      have kx := block_cell t5
      have fx := block_frozen t5
      go_upto_region 21 with fail
      generalize hV : W5.setCell ⟨gq + 1, 3, none⟩ _ = V7
      have tV := heap_set1 t5 3 (.int .u16 g4)
      rw [hV] at tV
      have hbV7 : But (fun b => b = gq + 1) W5 V7 := by rw [← hV]; exact (But.refl (fun b => b = gq + 1) _).setCell (p := ⟨gq + 1, 3, none⟩) rfl _
      clear hV kx fx
      simp only [List.setIfInBounds_toArray, List.set_cons_zero, List.set_cons_succ] at tV
      have kx := block_cell tV
      have fx := block_frozen tV
      go_upto_region 26 with fail
      generalize hV : V7.setCell ⟨gq + 1, 4, none⟩ _ = V8
      have tN := heap_set1 tV 4 (.int .u16 g4)
      rw [hV] at tN
      have hbV8 : But (fun b => b = gq + 1) V7 V8 := by rw [← hV]; exact (But.refl (fun b => b = gq + 1) _).setCell (p := ⟨gq + 1, 4, none⟩) rfl _
      clear hV kx fx
      simp only [List.setIfInBounds_toArray, List.set_cons_zero, List.set_cons_succ] at tN
      have hbN : But (fun b => b = gq + 1) w4 V8 := (But.of l5).trans (hbV7.trans hbV8)
      have qN := (hbN.block gq (Array.getElem?_eq_some_iff.1 qk).1 (by omega)).trans qk
      have rN := (hbN.block (w.heap.size + 1) (Array.getElem?_eq_some_iff.1 r3).1 (by omega)).trans r3
      have sN := (hbN.block (w.heap.size + 1 + 1) (Array.getElem?_eq_some_iff.1 s3).1 (by omega)).trans s3
      have hwN : Below w.heap.size w V8 := hw3.trans (hbN.below hw3.size (fun k hk e => by omega))
      refine anyT_begin (R := But (fun b => b = w.heap.size + 1 ∨ b = w.heap.size + 1 + 1)) 5 rfl (by kernel_rfl) ?_
      have ld : Later V8 V8.drew := Later.drew V8
      have qd0 := later_keep ld qN
      have td0 := later_keep ld tN
      have rd0 := later_keep ld rN
      have sd0 := later_keep ld sN
      have hwd := hwN.trans (ld.mono hwN.size)
      generalize V8.drew = Wd at *
      have ha : ∀ v1, But (fun b => b = w.heap.size + 1 ∨ b = w.heap.size + 1 + 1) Wd v1 → ∀ i, v1.cell? ⟨gq, i, none⟩ = #[Value.int .u8 q1, .int .u16 q2, .bool q3, .int .u8 q4, .int .u8 pr, .int .u32 qs, .int .u32 qd, .slice b7 l7 c7, .slice (some ⟨g8, 0, none⟩) dq.length c8][i]? := fun v1 h => block_cell ((h.block gq (Array.getElem?_eq_some_iff.1 qd0).1 (by omega)).trans qd0)
      have hb : ∀ v1, But (fun b => b = w.heap.size + 1 ∨ b = w.heap.size + 1 + 1) Wd v1 → ∀ i, v1.cell? ⟨gq + 1, i, none⟩ = #[Value.int .u8 pr, .int .u32 qs, .int .u32 qd, .int .u16 g4, .int .u16 g4][i]? := fun v1 h => block_cell ((h.block (gq + 1) (Array.getElem?_eq_some_iff.1 td0).1 (by omega)).trans td0)
      refine anyT_val (But.pre _) 0 rfl (by kernel_rfl) (by kernel_rfl) (by kernel_rfl) (fun _ _ _ _ h => h) rfl ?_; apply Exists.intro; refine ⟨fun v1 hv1 => ?_, ?_⟩; (· (go_simp; rfl)); simp only [Act.put, List.setIfInBounds_toArray, List.set_cons_zero, List.set_cons_succ]
      refine anyT_val (But.pre _) 1 rfl (by kernel_rfl) (by kernel_rfl) (by kernel_rfl) (fun _ _ _ _ h => h) rfl ?_; apply Exists.intro; refine ⟨fun v1 hv1 => ?_, ?_⟩; (· (go_simp; rfl)); simp only [Act.put, List.setIfInBounds_toArray, List.set_cons_zero, List.set_cons_succ]
      clear ha hb
      have kx := block_cell rd0
      have fx := block_frozen rd0
      refine anyT_one 2 rfl (by kernel_rfl) rfl ?_
      unfold Oper.wp
      go_simp
      generalize hV1 : ((((((((Wd.setCell ⟨w.heap.size + 1, 0, none⟩ _).setCell ⟨w.heap.size + 1, 1, none⟩ _).setCell ⟨w.heap.size + 1, 2, none⟩ _).setCell ⟨w.heap.size + 1, 3, none⟩ _).setCell ⟨w.heap.size + 1, 4, none⟩ _).setCell ⟨w.heap.size + 1, 5, none⟩ _).setCell ⟨w.heap.size + 1, 6, none⟩ _).setCell ⟨w.heap.size + 1, 7, none⟩ _).setCell ⟨w.heap.size + 1, 8, none⟩ _ = Y0
      have hV9 : Y0 = putRow Wd (w.heap.size + 1) 0 [.int .u8 q1, .int .u16 q2, .bool q3, .int .u8 q4, .int .u8 pr, .int .u32 qs, .int .u32 qd, .slice b7 l7 c7, .slice (some ⟨g8, 0, none⟩) dq.length c8] := hV1.symm
      have hbY0 : But (fun b => b = w.heap.size + 1) Wd Y0 := by rw [hV9]; exact putRow_but (E := fun b => b = w.heap.size + 1) (n := w.heap.size + 1) rfl _ _ _ _ (But.refl _ _)
      have hbY1 : But (fun b => b = w.heap.size + 1 ∨ b = w.heap.size + 1 + 1) Wd Y0 := by rw [hV9]; exact putRow_but (E := fun b => b = w.heap.size + 1 ∨ b = w.heap.size + 1 + 1) (n := w.heap.size + 1) (.inl rfl) _ _ _ _ (But.refl _ _)
      have pY0 := putRow_all ([.int .u8 q1, .int .u16 q2, .bool q3, .int .u8 q4, .int .u8 pr, .int .u32 qs, .int .u32 qd, .slice b7 l7 c7, .slice (some ⟨g8, 0, none⟩) dq.length c8] : List Value) rd0 rfl
      rw [← hV9] at pY0
      have sY0 := (hbY0.block (w.heap.size + 1 + 1) (Array.getElem?_eq_some_iff.1 sd0).1 (by omega)).trans sd0
      refine ⟨hbY1, ?_⟩
      clear hV1 hV9 kx fx
      have kx := block_cell sY0
      have fx := block_frozen sY0
      refine anyT_one 3 rfl (by kernel_rfl) rfl ?_
      unfold Oper.wp
      go_simp
      generalize hV2 : ((((Y0.setCell ⟨w.heap.size + 1 + 1, 0, none⟩ _).setCell ⟨w.heap.size + 1 + 1, 1, none⟩ _).setCell ⟨w.heap.size + 1 + 1, 2, none⟩ _).setCell ⟨w.heap.size + 1 + 1, 3, none⟩ _).setCell ⟨w.heap.size + 1 + 1, 4, none⟩ _ = V
      have hV8 : V = putRow Y0 (w.heap.size + 1 + 1) 0 [.int .u8 pr, .int .u32 qs, .int .u32 qd, .int .u16 g4, .int .u16 g4] := hV2.symm
      have hbV : But (fun b => b = w.heap.size + 1 + 1) Y0 V := by rw [hV8]; exact putRow_but (E := fun b => b = w.heap.size + 1 + 1) (n := w.heap.size + 1 + 1) rfl _ _ _ _ (But.refl _ _)
      have hbV1 : But (fun b => b = w.heap.size + 1 ∨ b = w.heap.size + 1 + 1) Y0 V := by rw [hV8]; exact putRow_but (E := fun b => b = w.heap.size + 1 ∨ b = w.heap.size + 1 + 1) (n := w.heap.size + 1 + 1) (.inr rfl) _ _ _ _ (But.refl _ _)
      have qV := putRow_all ([.int .u8 pr, .int .u32 qs, .int .u32 qd, .int .u16 g4, .int .u16 g4] : List Value) sY0 rfl
      rw [← hV8] at qV
      have pV := (hbV.block (w.heap.size + 1) (Array.getElem?_eq_some_iff.1 pY0).1 (by omega)).trans pY0
      refine ⟨hbV1, ?_⟩
      clear hV2 hV8 kx fx
      refine anyT_one 4 rfl (by kernel_rfl) rfl ?_
      unfold Oper.wp
      go_simp
      refine ⟨But.refl _ _, ?_⟩
      refine anyT_done (by kernel_rfl) ?_
      have PV := block_cell pV
      have QV := block_cell qV
      have hwV : Below w.heap.size w V := (hwd.trans (hbY0.below hwd.size (fun k hk e => by omega))).trans (hbV.below (Nat.le_trans hwd.size hbY0.size) (fun k hk e => by omega))
      go_wp2_with fail
      exact bodyPost_ret (v := .tuple #[.agg #[.int .u8 q1, .int .u16 q2, .bool q3, .int .u8 q4, .int .u8 pr, .int .u32 qs, .int .u32 qd, .slice b7 l7 c7, .slice (some ⟨g8, 0, none⟩) dq.length c8], .agg #[.int .u8 pr, .int .u32 qs, .int .u32 qd, .int .u16 g4, .int .u16 g4], .int .i64 0]) (by simp [results, Tryz.results23, go_sem, PV, QV]) rfl ⟨hwV, by rw [HDQ.out, HG4.out, HQS.out, HQD.out]; exact rin_mk _ _ _ _ _ _ _ _ _ _ _ _ _ _ _⟩
    · rw [h0] at kd0
      clear h0
      go_upto_region 20 with fail
      clear hq6 hq17 hq1 hq47 kq
      clear kd0 kd1
      have kq := block_cell qk
      go_wp2_with fail
      clear kq
      refine (rget16_at _ dq hBq 4 (by omega) hld w4 D3.rd).mono ?_
      rintro e W5 ⟨rfl, n5, e5⟩
      have l5 : Later w4 W5 := by rw [e5]; exact below_draw (Later.refl w4) n5
      clear e5
      have t5 := later_keep l5 tk
      generalize hg4 : getAt2 dq 4 = g4 at *
      have HG4 := hide hg4
      clear hg4
      have kx := block_cell t5
      have fx := block_frozen t5
      go_upto_region 21 with fail
      generalize hV : W5.setCell ⟨gq + 1, 3, none⟩ _ = V7
      have tV := heap_set1 t5 3 (.int .u16 g4)
      rw [hV] at tV
      have hbV7 : But (fun b => b = gq + 1) W5 V7 := by rw [← hV]; exact (But.refl (fun b => b = gq + 1) _).setCell (p := ⟨gq + 1, 3, none⟩) rfl _
      clear hV kx fx
      simp only [List.setIfInBounds_toArray, List.set_cons_zero, List.set_cons_succ] at tV
      have kx := block_cell tV
      have fx := block_frozen tV
      go_upto_region 26 with fail
      generalize hV : V7.setCell ⟨gq + 1, 4, none⟩ _ = V8
      have tN := heap_set1 tV 4 (.int .u16 g4)
      rw [hV] at tN
      have hbV8 : But (fun b => b = gq + 1) V7 V8 := by rw [← hV]; exact (But.refl (fun b => b = gq + 1) _).setCell (p := ⟨gq + 1, 4, none⟩) rfl _
      clear hV kx fx
      simp only [List.setIfInBounds_toArray, List.set_cons_zero, List.set_cons_succ] at tN
      have hbN : But (fun b => b = gq + 1) w4 V8 := (But.of l5).trans (hbV7.trans hbV8)
      have qN := (hbN.block gq (Array.getElem?_eq_some_iff.1 qk).1 (by omega)).trans qk
      have rN := (hbN.block (w.heap.size + 1) (Array.getElem?_eq_some_iff.1 r3).1 (by omega)).trans r3
      have sN := (hbN.block (w.heap.size + 1 + 1) (Array.getElem?_eq_some_iff.1 s3).1 (by omega)).trans s3
      have hwN : Below w.heap.size w V8 := hw3.trans (hbN.below hw3.size (fun k hk e => by omega))
      refine anyT_begin (R := But (fun b => b = w.heap.size + 1 ∨ b = w.heap.size + 1 + 1)) 5 rfl (by kernel_rfl) ?_
      have ld : Later V8 V8.drew := Later.drew V8
      have qd0 := later_keep ld qN
      have td0 := later_keep ld tN
      have rd0 := later_keep ld rN
      have sd0 := later_keep ld sN
      have hwd := hwN.trans (ld.mono hwN.size)
      generalize V8.drew = Wd at *
      have ha : ∀ v1, But (fun b => b = w.heap.size + 1 ∨ b = w.heap.size + 1 + 1) Wd v1 → ∀ i, v1.cell? ⟨gq, i, none⟩ = #[Value.int .u8 q1, .int .u16 q2, .bool q3, .int .u8 q4, .int .u8 pr, .int .u32 qs, .int .u32 qd, .slice b7 l7 c7, .slice (some ⟨g8, 0, none⟩) dq.length c8][i]? := fun v1 h => block_cell ((h.block gq (Array.getElem?_eq_some_iff.1 qd0).1 (by omega)).trans qd0)
      have hb : ∀ v1, But (fun b => b = w.heap.size + 1 ∨ b = w.heap.size + 1 + 1) Wd v1 → ∀ i, v1.cell? ⟨gq + 1, i, none⟩ = #[Value.int .u8 pr, .int .u32 qs, .int .u32 qd, .int .u16 g4, .int .u16 g4][i]? := fun v1 h => block_cell ((h.block (gq + 1) (Array.getElem?_eq_some_iff.1 td0).1 (by omega)).trans td0)
      refine anyT_val (But.pre _) 0 rfl (by kernel_rfl) (by kernel_rfl) (by kernel_rfl) (fun _ _ _ _ h => h) rfl ?_; apply Exists.intro; refine ⟨fun v1 hv1 => ?_, ?_⟩; (· (go_simp; rfl)); simp only [Act.put, List.setIfInBounds_toArray, List.set_cons_zero, List.set_cons_succ]
      refine anyT_val (But.pre _) 1 rfl (by kernel_rfl) (by kernel_rfl) (by kernel_rfl) (fun _ _ _ _ h => h) rfl ?_; apply Exists.intro; refine ⟨fun v1 hv1 => ?_, ?_⟩; (· (go_simp; rfl)); simp only [Act.put, List.setIfInBounds_toArray, List.set_cons_zero, List.set_cons_succ]
      clear ha hb
      have kx := block_cell rd0
      have fx := block_frozen rd0
      refine anyT_one 2 rfl (by kernel_rfl) rfl ?_
      unfold Oper.wp
      go_simp
      generalize hV1 : ((((((((Wd.setCell ⟨w.heap.size + 1, 0, none⟩ _).setCell ⟨w.heap.size + 1, 1, none⟩ _).setCell ⟨w.heap.size + 1, 2, none⟩ _).setCell ⟨w.heap.size + 1, 3, none⟩ _).setCell ⟨w.heap.size + 1, 4, none⟩ _).setCell ⟨w.heap.size + 1, 5, none⟩ _).setCell ⟨w.heap.size + 1, 6, none⟩ _).setCell ⟨w.heap.size + 1, 7, none⟩ _).setCell ⟨w.heap.size + 1, 8, none⟩ _ = Y0
      have hV9 : Y0 = putRow Wd (w.heap.size + 1) 0 [.int .u8 q1, .int .u16 q2, .bool q3, .int .u8 q4, .int .u8 pr, .int .u32 qs, .int .u32 qd, .slice b7 l7 c7, .slice (some ⟨g8, 0, none⟩) dq.length c8] := hV1.symm
      have hbY0 : But (fun b => b = w.heap.size + 1) Wd Y0 := by rw [hV9]; exact putRow_but (E := fun b => b = w.heap.size + 1) (n := w.heap.size + 1) rfl _ _ _ _ (But.refl _ _)
      have hbY1 : But (fun b => b = w.heap.size + 1 ∨ b = w.heap.size + 1 + 1) Wd Y0 := by rw [hV9]; exact putRow_but (E := fun b => b = w.heap.size + 1 ∨ b = w.heap.size + 1 + 1) (n := w.heap.size + 1) (.inl rfl) _ _ _ _ (But.refl _ _)
      have pY0 := putRow_all ([.int .u8 q1, .int .u16 q2, .bool q3, .int .u8 q4, .int .u8 pr, .int .u32 qs, .int .u32 qd, .slice b7 l7 c7, .slice (some ⟨g8, 0, none⟩) dq.length c8] : List Value) rd0 rfl
      rw [← hV9] at pY0
      have sY0 := (hbY0.block (w.heap.size + 1 + 1) (Array.getElem?_eq_some_iff.1 sd0).1 (by omega)).trans sd0
      refine ⟨hbY1, ?_⟩
      clear hV1 hV9 kx fx
      have kx := block_cell sY0
      have fx := block_frozen sY0
      refine anyT_one 3 rfl (by kernel_rfl) rfl ?_
      unfold Oper.wp
      go_simp
      generalize hV2 : ((((Y0.setCell ⟨w.heap.size + 1 + 1, 0, none⟩ _).setCell ⟨w.heap.size + 1 + 1, 1, none⟩ _).setCell ⟨w.heap.size + 1 + 1, 2, none⟩ _).setCell ⟨w.heap.size + 1 + 1, 3, none⟩ _).setCell ⟨w.heap.size + 1 + 1, 4, none⟩ _ = V
      have hV8 : V = putRow Y0 (w.heap.size + 1 + 1) 0 [.int .u8 pr, .int .u32 qs, .int .u32 qd, .int .u16 g4, .int .u16 g4] := hV2.symm
      have hbV : But (fun b => b = w.heap.size + 1 + 1) Y0 V := by rw [hV8]; exact putRow_but (E := fun b => b = w.heap.size + 1 + 1) (n := w.heap.size + 1 + 1) rfl _ _ _ _ (But.refl _ _)
      have hbV1 : But (fun b => b = w.heap.size + 1 ∨ b = w.heap.size + 1 + 1) Y0 V := by rw [hV8]; exact putRow_but (E := fun b => b = w.heap.size + 1 ∨ b = w.heap.size + 1 + 1) (n := w.heap.size + 1 + 1) (.inr rfl) _ _ _ _ (But.refl _ _)
      have qV := putRow_all ([.int .u8 pr, .int .u32 qs, .int .u32 qd, .int .u16 g4, .int .u16 g4] : List Value) sY0 rfl
      rw [← hV8] at qV
      have pV := (hbV.block (w.heap.size + 1) (Array.getElem?_eq_some_iff.1 pY0).1 (by omega)).trans pY0
      refine ⟨hbV1, ?_⟩
      clear hV2 hV8 kx fx
      refine anyT_one 4 rfl (by kernel_rfl) rfl ?_
      unfold Oper.wp
      go_simp
      refine ⟨But.refl _ _, ?_⟩
      refine anyT_done (by kernel_rfl) ?_
      have PV := block_cell pV
      have QV := block_cell qV
      have hwV : Below w.heap.size w V := (hwd.trans (hbY0.below hwd.size (fun k hk e => by omega))).trans (hbV.below (Nat.le_trans hwd.size hbY0.size) (fun k hk e => by omega))
      go_wp2_with fail
      exact bodyPost_ret (v := .tuple #[.agg #[.int .u8 q1, .int .u16 q2, .bool q3, .int .u8 q4, .int .u8 pr, .int .u32 qs, .int .u32 qd, .slice b7 l7 c7, .slice (some ⟨g8, 0, none⟩) dq.length c8], .agg #[.int .u8 pr, .int .u32 qs, .int .u32 qd, .int .u16 g4, .int .u16 g4], .int .i64 0]) (by simp [results, Tryz.results23, go_sem, PV, QV]) rfl ⟨hwV, by rw [HDQ.out, HG4.out, HQS.out, HQD.out]; exact rin_mk _ _ _ _ _ _ _ _ _ _ _ _ _ _ _⟩

set_option maxHeartbeats 8000000 in
theorem rinner_noecho (pr : Int) (tos id ttl src dst : Int) (keep : Bool) (so sd : Value) (zd : List Int) (w : World) (hB : Mt.By zd) (hI : Rd w.heap.size w sd zd) (hl : zd.length ≤ 1099511627776) (hpi : pie 1 zd = 0) (her : erb (zd[0]?.getD 0) = true) (hrd : rde true (zd.drop 8) = 0) (hpr : (zd.drop 8)[9]?.getD 0 = pr) (h8 : 8 ≤ (qdt (zd.drop 8)).length) (hld : (qdt (zd.drop 8)).length ≤ 140737488355328) (hp : pr = 1) (hec : ecb ((qdt (zd.drop 8))[0]?.getD 0) ((qdt (zd.drop 8))[1]?.getD 0) = false) : Calls Tryz.prog 23 #[.agg #[.int .u8 tos, .int .u16 id, .bool keep, .int .u8 ttl, .int .u8 1, .int .u32 src, .int .u32 dst, so, sd]] w fun e w' => Below w.heap.size w w' ∧ rin (.agg #[.int .u8 0, .int .u32 0, .int .u32 0, .int .u16 0, .int .u16 0]) 12 e := by
  have HEC := hide hec
  clear hec
  obtain ⟨ad, cd, rfl, _, _⟩ := hI.slice
  have hb0 : Below w.heap.size w (((w.alloc (.cells #[.int .u8 tos, .int .u16 id, .bool keep, .int .u8 ttl, .int .u8 1, .int .u32 src, .int .u32 dst, so, .slice ad zd.length cd] 26)).alloc (.cells #[.int .u8 0, .int .u16 0, .bool false, .int .u8 0, .int .u8 0, .int .u32 0, .int .u32 0, .slice none 0 0, .slice none 0 0] 26)).alloc (.cells #[.int .u8 0, .int .u32 0, .int .u32 0, .int .u16 0, .int .u16 0] 29)) := ((((Below.refl _ _).alloc (Nat.le_refl _) _).alloc (by simp) _).alloc (by simp <;> omega) _)
  have r0 : (((w.alloc (.cells #[.int .u8 tos, .int .u16 id, .bool keep, .int .u8 ttl, .int .u8 1, .int .u32 src, .int .u32 dst, so, .slice ad zd.length cd] 26)).alloc (.cells #[.int .u8 0, .int .u16 0, .bool false, .int .u8 0, .int .u8 0, .int .u32 0, .int .u32 0, .slice none 0 0, .slice none 0 0] 26)).alloc (.cells #[.int .u8 0, .int .u32 0, .int .u32 0, .int .u16 0, .int .u16 0] 29)).heap[w.heap.size + 1]? = some (.cells #[.int .u8 0, .int .u16 0, .bool false, .int .u8 0, .int .u8 0, .int .u32 0, .int .u32 0, .slice none 0 0, .slice none 0 0] 26) := by
    have := heap_alloc_new (w.alloc (.cells #[.int .u8 tos, .int .u16 id, .bool keep, .int .u8 ttl, .int .u8 1, .int .u32 src, .int .u32 dst, so, .slice ad zd.length cd] 26)) (.cells #[.int .u8 0, .int .u16 0, .bool false, .int .u8 0, .int .u8 0, .int .u32 0, .int .u32 0, .slice none 0 0, .slice none 0 0] 26)
    rw [World.size_alloc] at this
    exact (Below.heap_alloc _ _ _ (by simp)).trans this
  have s0 : (((w.alloc (.cells #[.int .u8 tos, .int .u16 id, .bool keep, .int .u8 ttl, .int .u8 1, .int .u32 src, .int .u32 dst, so, .slice ad zd.length cd] 26)).alloc (.cells #[.int .u8 0, .int .u16 0, .bool false, .int .u8 0, .int .u8 0, .int .u32 0, .int .u32 0, .slice none 0 0, .slice none 0 0] 26)).alloc (.cells #[.int .u8 0, .int .u32 0, .int .u32 0, .int .u16 0, .int .u16 0] 29)).heap[w.heap.size + 1 + 1]? = some (.cells #[.int .u8 0, .int .u32 0, .int .u32 0, .int .u16 0, .int .u16 0] 29) := by
    have := heap_alloc_new ((w.alloc (.cells #[.int .u8 tos, .int .u16 id, .bool keep, .int .u8 ttl, .int .u8 1, .int .u32 src, .int .u32 dst, so, .slice ad zd.length cd] 26)).alloc (.cells #[.int .u8 0, .int .u16 0, .bool false, .int .u8 0, .int .u8 0, .int .u32 0, .int .u32 0, .slice none 0 0, .slice none 0 0] 26)) (.cells #[.int .u8 0, .int .u32 0, .int .u32 0, .int .u16 0, .int .u16 0] 29)
    simpa only [World.size_alloc] using this
  have R0 := hide r0
  have S0 := hide s0
  clear r0 s0
  go_enter Tryz.func23, Tryz.ntmps23
  go_wp2_with fail
  generalize (((w.alloc (.cells #[.int .u8 tos, .int .u16 id, .bool keep, .int .u8 ttl, .int .u8 1, .int .u32 src, .int .u32 dst, so, .slice ad zd.length cd] 26)).alloc (.cells #[.int .u8 0, .int .u16 0, .bool false, .int .u8 0, .int .u8 0, .int .u32 0, .int .u32 0, .slice none 0 0, .slice none 0 0] 26)).alloc (.cells #[.int .u8 0, .int .u32 0, .int .u32 0, .int .u16 0, .int .u16 0] 29)) = w0 at *
  refine (rparseIcmp_any tos id ttl 1 src dst keep _ _ zd w0 hB ((hI.below hb0).mono hb0.size) hl).mono ?_
  rintro e w1 ⟨hb1, ⟨hf, rfl⟩ | ⟨hf, a1, c1, rfl, hO⟩⟩
  · exact absurd hpi hf
  · clear hf
    have la : Later w1 (w1.alloc (.cells #[.int .u8 (zd[0]?.getD 0), .int .u8 (zd[1]?.getD 0), .int .u32 (wat4 zd 4), .slice a1 (zd.length - 8) c1] 39)) := (Below.refl _ _).alloc (Nat.le_refl _) _
    have l1 := Later.trans hb1 la
    have mW := heap_alloc_new w1 (.cells #[.int .u8 (zd[0]?.getD 0), .int .u8 (zd[1]?.getD 0), .int .u32 (wat4 zd 4), .slice a1 (zd.length - 8) c1] 39)
    have rW := later_keep l1 R0.out
    have sW := later_keep l1 S0.out
    have hwW := hb0.trans (l1.mono hb0.size)
    have DW := hO.ck (CK.of la)
    go_wp2_with fail
    generalize w1.alloc (.cells #[.int .u8 (zd[0]?.getD 0), .int .u8 (zd[1]?.getD 0), .int .u32 (wat4 zd 4), .slice a1 (zd.length - 8) c1] 39) = W at *
    generalize w1.heap.size = gm at *
    refine (risError_any (zd[0]?.getD 0) (zd[1]?.getD 0) (wat4 zd 4) _ W).mono ?_
    rw [show (zd[0]?.getD 0 == 3 || (zd[0]?.getD 0 == 11 || zd[0]?.getD 0 == 12)) = true from her]
    rintro e w2 ⟨rfl, hb2⟩
    have l2 : Later W w2 := hb2
    have r2 := later_keep l2 rW
    have s2 := later_keep l2 sW
    have hw2 := hwW.trans (hb2.mono hwW.size)
    have km := block_cell (later_keep l2 mW)
    have D2 := DW.ck (CK.of l2)
    go_wp2_with fail
    clear km
    refine (rquote_any _ (zd.drop 8) w2 (hB.drop 8) (by simp; omega) D2.rd).mono ?_
    rintro e w3 ⟨hb3, ⟨hf3, _⟩ | ⟨_, qo, qs0, rfl, hO3, hD3⟩⟩
    · exact absurd hrd hf3
    obtain ⟨b7, c7, rfl, _, _⟩ := hO3.slice
    obtain ⟨b8, c8, rfl, hc8, hc9⟩ := hD3.slice
    have hBq := By_qdt (hB.drop 8)
    unfold pkt
    have HPR := hide hpr
    rw [hpr]
    clear hpr hpi her hrd
    generalize (zd.drop 8)[1]?.getD 0 = q1 at *
    generalize wat (zd.drop 8) 4 = q2 at *
    generalize decide (16384 ≤ wat (zd.drop 8) 6 % 32768) = q3 at *
    generalize (zd.drop 8)[8]?.getD 0 = q4 at *
    generalize hqs : wat4 (zd.drop 8) 12 = qs at *
    generalize hqd : wat4 (zd.drop 8) 16 = qd at *
    have HQS := hide hqs
    have HQD := hide hqd
    clear hqs hqd
    generalize (((zd.drop 8).take (hl4 (zd.drop 8)).toNat).drop 20).length = l7 at *
    clear hO3
    rw [show ((zd.drop 8).take (ral true (zd.drop 8)).toNat).drop (hl4 (zd.drop 8)).toNat = qdt (zd.drop 8) from rfl] at hD3 hc8 ⊢
    generalize hdq : qdt (zd.drop 8) = dq at *
    have HDQ := hide hdq
    clear hdq
    have la3 : Later w3 (w3.alloc (.cells #[.int .u8 q1, .int .u16 q2, .bool q3, .int .u8 q4, .int .u8 pr, .int .u32 qs, .int .u32 qd, .slice b7 l7 c7, .slice b8 dq.length c8] 26)) := (Below.refl _ _).alloc (Nat.le_refl _) _
    have lb3 : Later (w3.alloc (.cells #[.int .u8 q1, .int .u16 q2, .bool q3, .int .u8 q4, .int .u8 pr, .int .u32 qs, .int .u32 qd, .slice b7 l7 c7, .slice b8 dq.length c8] 26)) ((w3.alloc (.cells #[.int .u8 q1, .int .u16 q2, .bool q3, .int .u8 q4, .int .u8 pr, .int .u32 qs, .int .u32 qd, .slice b7 l7 c7, .slice b8 dq.length c8] 26)).alloc (.cells #[.int .u8 pr, .int .u32 qs, .int .u32 qd, .int .u16 0, .int .u16 0] 29)) := (Below.refl _ _).alloc (Nat.le_refl _) _
    have lab := la3.trans lb3
    have l3 := Later.trans hb3 lab
    have qk := later_keep lb3 (heap_alloc_new w3 (.cells #[.int .u8 q1, .int .u16 q2, .bool q3, .int .u8 q4, .int .u8 pr, .int .u32 qs, .int .u32 qd, .slice b7 l7 c7, .slice b8 dq.length c8] 26))
    have tk := heap_alloc_new (w3.alloc (.cells #[.int .u8 q1, .int .u16 q2, .bool q3, .int .u8 q4, .int .u8 pr, .int .u32 qs, .int .u32 qd, .slice b7 l7 c7, .slice b8 dq.length c8] 26)) (.cells #[.int .u8 pr, .int .u32 qs, .int .u32 qd, .int .u16 0, .int .u16 0] 29)
    rw [World.size_alloc] at tk
    have r3 := later_keep l3 r2
    have s3 := later_keep l3 s2
    have hw3 := hw2.trans (l3.mono hw2.size)
    have D3 := hD3.ck (CK.of lab)
    have hgq : w.heap.size + 1 + 1 < w3.heap.size := Nat.lt_of_lt_of_le (Array.getElem?_eq_some_iff.1 s2).1 hb3.size
    clear D2 hD3
    have HLQ : Hid (8 ≤ dq.length) := h8
    have hq6 : (pr == 6) = false := by simp [hp]
    have hq17 : (pr == 17) = false := by simp [hp]
    have hq1 : (pr == 1) = true := by simp [hp]
    have hq47 : (pr == 47) = false := by simp [hp]
    have HP := hide hp
    clear hp
    have kq := block_cell qk
    go_upto_region 18 with fail
    generalize (w3.alloc (.cells #[.int .u8 q1, .int .u16 q2, .bool q3, .int .u8 q4, .int .u8 pr, .int .u32 qs, .int .u32 qd, .slice b7 l7 c7, .slice b8 dq.length c8] 26)).alloc (.cells #[.int .u8 pr, .int .u32 qs, .int .u32 qd, .int .u16 0, .int .u16 0] 29) = w4 at *
    generalize w3.heap.size = gq at *
    have h8q := HLQ.out
    have h8i : (8 : Int) ≤ dq.length := by omega
    obtain ⟨g8, rfl, _, _, hcs, _⟩ := D3.at (by omega)
    have kd0 := (hcs 0 (by omega)).1
    have kd1 := (hcs 1 (by omega)).1
    clear hcs
    have hec : ecb (dq[0]?.getD 0) (dq[1]?.getD 0) = false := HEC.out
    generalize dq[0]?.getD 0 = d0 at *
    generalize dq[1]?.getD 0 = d1 at *
    have rw4 := r3
    have sw4 := s3
    have hww4 := hw3
    by_cases h80 : d0 = 8 ∨ d0 = 0
    · have h1 : (d1 != 0) = true := by
        unfold ecb at hec
        rcases h80 with rfl | rfl <;> simpa using hec
      clear hec HEC
      rcases h80 with rfl | rfl
      · have rX := r3
        have sX := s3
        have hwX := hw3
        go_upto_region 19 with fail
        clear hq6 hq17 hq1 hq47 kq
        have kX := block_cell rX
        have fX := block_frozen rX
        have kS := block_cell sX
        have fS := block_frozen sX
        go_wp2_with fail
        generalize hV : (((((((((((((w4.setCell ⟨w.heap.size + 1, 0, none⟩ _).setCell ⟨w.heap.size + 1, 1, none⟩ _).setCell ⟨w.heap.size + 1, 2, none⟩ _).setCell ⟨w.heap.size + 1, 3, none⟩ _).setCell ⟨w.heap.size + 1, 4, none⟩ _).setCell ⟨w.heap.size + 1, 5, none⟩ _).setCell ⟨w.heap.size + 1, 6, none⟩ _).setCell ⟨w.heap.size + 1, 7, none⟩ _).setCell ⟨w.heap.size + 1, 8, none⟩ _).setCell ⟨w.heap.size + 1 + 1, 0, none⟩ _).setCell ⟨w.heap.size + 1 + 1, 1, none⟩ _).setCell ⟨w.heap.size + 1 + 1, 2, none⟩ _).setCell ⟨w.heap.size + 1 + 1, 3, none⟩ _).setCell ⟨w.heap.size + 1 + 1, 4, none⟩ _ = V
        have hV8 : V = putRow (putRow w4 (w.heap.size + 1) 0 [.int .u8 0, .int .u16 0, .bool false, .int .u8 0, .int .u8 0, .int .u32 0, .int .u32 0, .slice none 0 0, .slice none 0 0]) (w.heap.size + 1 + 1) 0 [.int .u8 0, .int .u32 0, .int .u32 0, .int .u16 0, .int .u16 0] := hV.symm
        have hbY : But (fun b => b = w.heap.size + 1) w4 (putRow w4 (w.heap.size + 1) 0 [.int .u8 0, .int .u16 0, .bool false, .int .u8 0, .int .u8 0, .int .u32 0, .int .u32 0, .slice none 0 0, .slice none 0 0]) := putRow_but (E := fun b => b = w.heap.size + 1) (n := w.heap.size + 1) rfl _ _ _ _ (But.refl _ _)
        have pY := putRow_all ([.int .u8 0, .int .u16 0, .bool false, .int .u8 0, .int .u8 0, .int .u32 0, .int .u32 0, .slice none 0 0, .slice none 0 0] : List Value) rX rfl
        have sY := (hbY.block (w.heap.size + 1 + 1) (Array.getElem?_eq_some_iff.1 sX).1 (by omega)).trans sX
        generalize putRow w4 (w.heap.size + 1) 0 [.int .u8 0, .int .u16 0, .bool false, .int .u8 0, .int .u8 0, .int .u32 0, .int .u32 0, .slice none 0 0, .slice none 0 0] = Y at *
        have hbV : But (fun b => b = w.heap.size + 1 + 1) Y V := by rw [hV8]; exact putRow_but (E := fun b => b = w.heap.size + 1 + 1) (n := w.heap.size + 1 + 1) rfl _ _ _ _ (But.refl _ _)
        have qV := putRow_all ([.int .u8 0, .int .u32 0, .int .u32 0, .int .u16 0, .int .u16 0] : List Value) sY rfl
        rw [← hV8] at qV
        have pV := (hbV.block (w.heap.size + 1) (Array.getElem?_eq_some_iff.1 pY).1 (by omega)).trans pY
        clear hV8 kX fX kS fS
        have PV := block_cell pV
        have QV := block_cell qV
        have hwV : Below w.heap.size w V := (hwX.trans (hbY.below hwX.size (fun k hk e => by omega))).trans (hbV.below (Nat.le_trans hwX.size hbY.size) (fun k hk e => by omega))
        exact bodyPost_ret (v := .tuple #[.agg #[.int .u8 0, .int .u16 0, .bool false, .int .u8 0, .int .u8 0, .int .u32 0, .int .u32 0, .slice none 0 0, .slice none 0 0], .agg #[.int .u8 0, .int .u32 0, .int .u32 0, .int .u16 0, .int .u16 0], .int .i64 12]) (by simp [results, Tryz.results23, go_sem, PV, QV]) rfl ⟨hwV, rin_mk _ _ _ _ _ _ _ _ _ _ _ _ _ _ _⟩
      · have rX := r3
        have sX := s3
        have hwX := hw3
        go_upto_region 19 with fail
        clear hq6 hq17 hq1 hq47 kq
        have kX := block_cell rX
        have fX := block_frozen rX
        have kS := block_cell sX
        have fS := block_frozen sX
        go_wp2_with fail
        generalize hV : (((((((((((((w4.setCell ⟨w.heap.size + 1, 0, none⟩ _).setCell ⟨w.heap.size + 1, 1, none⟩ _).setCell ⟨w.heap.size + 1, 2, none⟩ _).setCell ⟨w.heap.size + 1, 3, none⟩ _).setCell ⟨w.heap.size + 1, 4, none⟩ _).setCell ⟨w.heap.size + 1, 5, none⟩ _).setCell ⟨w.heap.size + 1, 6, none⟩ _).setCell ⟨w.heap.size + 1, 7, none⟩ _).setCell ⟨w.heap.size + 1, 8, none⟩ _).setCell ⟨w.heap.size + 1 + 1, 0, none⟩ _).setCell ⟨w.heap.size + 1 + 1, 1, none⟩ _).setCell ⟨w.heap.size + 1 + 1, 2, none⟩ _).setCell ⟨w.heap.size + 1 + 1, 3, none⟩ _).setCell ⟨w.heap.size + 1 + 1, 4, none⟩ _ = V
        have hV8 : V = putRow (putRow w4 (w.heap.size + 1) 0 [.int .u8 0, .int .u16 0, .bool false, .int .u8 0, .int .u8 0, .int .u32 0, .int .u32 0, .slice none 0 0, .slice none 0 0]) (w.heap.size + 1 + 1) 0 [.int .u8 0, .int .u32 0, .int .u32 0, .int .u16 0, .int .u16 0] := hV.symm
        have hbY : But (fun b => b = w.heap.size + 1) w4 (putRow w4 (w.heap.size + 1) 0 [.int .u8 0, .int .u16 0, .bool false, .int .u8 0, .int .u8 0, .int .u32 0, .int .u32 0, .slice none 0 0, .slice none 0 0]) := putRow_but (E := fun b => b = w.heap.size + 1) (n := w.heap.size + 1) rfl _ _ _ _ (But.refl _ _)
        have pY := putRow_all ([.int .u8 0, .int .u16 0, .bool false, .int .u8 0, .int .u8 0, .int .u32 0, .int .u32 0, .slice none 0 0, .slice none 0 0] : List Value) rX rfl
        have sY := (hbY.block (w.heap.size + 1 + 1) (Array.getElem?_eq_some_iff.1 sX).1 (by omega)).trans sX
        generalize putRow w4 (w.heap.size + 1) 0 [.int .u8 0, .int .u16 0, .bool false, .int .u8 0, .int .u8 0, .int .u32 0, .int .u32 0, .slice none 0 0, .slice none 0 0] = Y at *
        have hbV : But (fun b => b = w.heap.size + 1 + 1) Y V := by rw [hV8]; exact putRow_but (E := fun b => b = w.heap.size + 1 + 1) (n := w.heap.size + 1 + 1) rfl _ _ _ _ (But.refl _ _)
        have qV := putRow_all ([.int .u8 0, .int .u32 0, .int .u32 0, .int .u16 0, .int .u16 0] : List Value) sY rfl
        rw [← hV8] at qV
        have pV := (hbV.block (w.heap.size + 1) (Array.getElem?_eq_some_iff.1 pY).1 (by omega)).trans pY
        clear hV8 kX fX kS fS
        have PV := block_cell pV
        have QV := block_cell qV
        have hwV : Below w.heap.size w V := (hwX.trans (hbY.below hwX.size (fun k hk e => by omega))).trans (hbV.below (Nat.le_trans hwX.size hbY.size) (fun k hk e => by omega))
        exact bodyPost_ret (v := .tuple #[.agg #[.int .u8 0, .int .u16 0, .bool false, .int .u8 0, .int .u8 0, .int .u32 0, .int .u32 0, .slice none 0 0, .slice none 0 0], .agg #[.int .u8 0, .int .u32 0, .int .u32 0, .int .u16 0, .int .u16 0], .int .i64 12]) (by simp [results, Tryz.results23, go_sem, PV, QV]) rfl ⟨hwV, rin_mk _ _ _ _ _ _ _ _ _ _ _ _ _ _ _⟩
    · have h1 : (d0 != 8) = true := by simp; omega
      have h2 : (d0 != 0) = true := by simp; omega
      clear hec HEC h80
      have rX := r3
      have sX := s3
      have hwX := hw3
      go_upto_region 19 with fail
      clear hq6 hq17 hq1 hq47 kq
      have kX := block_cell rX
      have fX := block_frozen rX
      have kS := block_cell sX
      have fS := block_frozen sX
      go_wp2_with fail
      generalize hV : (((((((((((((w4.setCell ⟨w.heap.size + 1, 0, none⟩ _).setCell ⟨w.heap.size + 1, 1, none⟩ _).setCell ⟨w.heap.size + 1, 2, none⟩ _).setCell ⟨w.heap.size + 1, 3, none⟩ _).setCell ⟨w.heap.size + 1, 4, none⟩ _).setCell ⟨w.heap.size + 1, 5, none⟩ _).setCell ⟨w.heap.size + 1, 6, none⟩ _).setCell ⟨w.heap.size + 1, 7, none⟩ _).setCell ⟨w.heap.size + 1, 8, none⟩ _).setCell ⟨w.heap.size + 1 + 1, 0, none⟩ _).setCell ⟨w.heap.size + 1 + 1, 1, none⟩ _).setCell ⟨w.heap.size + 1 + 1, 2, none⟩ _).setCell ⟨w.heap.size + 1 + 1, 3, none⟩ _).setCell ⟨w.heap.size + 1 + 1, 4, none⟩ _ = V
      have hV8 : V = putRow (putRow w4 (w.heap.size + 1) 0 [.int .u8 0, .int .u16 0, .bool false, .int .u8 0, .int .u8 0, .int .u32 0, .int .u32 0, .slice none 0 0, .slice none 0 0]) (w.heap.size + 1 + 1) 0 [.int .u8 0, .int .u32 0, .int .u32 0, .int .u16 0, .int .u16 0] := hV.symm
      have hbY : But (fun b => b = w.heap.size + 1) w4 (putRow w4 (w.heap.size + 1) 0 [.int .u8 0, .int .u16 0, .bool false, .int .u8 0, .int .u8 0, .int .u32 0, .int .u32 0, .slice none 0 0, .slice none 0 0]) := putRow_but (E := fun b => b = w.heap.size + 1) (n := w.heap.size + 1) rfl _ _ _ _ (But.refl _ _)
      have pY := putRow_all ([.int .u8 0, .int .u16 0, .bool false, .int .u8 0, .int .u8 0, .int .u32 0, .int .u32 0, .slice none 0 0, .slice none 0 0] : List Value) rX rfl
      have sY := (hbY.block (w.heap.size + 1 + 1) (Array.getElem?_eq_some_iff.1 sX).1 (by omega)).trans sX
      generalize putRow w4 (w.heap.size + 1) 0 [.int .u8 0, .int .u16 0, .bool false, .int .u8 0, .int .u8 0, .int .u32 0, .int .u32 0, .slice none 0 0, .slice none 0 0] = Y at *
      have hbV : But (fun b => b = w.heap.size + 1 + 1) Y V := by rw [hV8]; exact putRow_but (E := fun b => b = w.heap.size + 1 + 1) (n := w.heap.size + 1 + 1) rfl _ _ _ _ (But.refl _ _)
      have qV := putRow_all ([.int .u8 0, .int .u32 0, .int .u32 0, .int .u16 0, .int .u16 0] : List Value) sY rfl
      rw [← hV8] at qV
      have pV := (hbV.block (w.heap.size + 1) (Array.getElem?_eq_some_iff.1 pY).1 (by omega)).trans pY
      clear hV8 kX fX kS fS
      have PV := block_cell pV
      have QV := block_cell qV
      have hwV : Below w.heap.size w V := (hwX.trans (hbY.below hwX.size (fun k hk e => by omega))).trans (hbV.below (Nat.le_trans hwX.size hbY.size) (fun k hk e => by omega))
      exact bodyPost_ret (v := .tuple #[.agg #[.int .u8 0, .int .u16 0, .bool false, .int .u8 0, .int .u8 0, .int .u32 0, .int .u32 0, .slice none 0 0, .slice none 0 0], .agg #[.int .u8 0, .int .u32 0, .int .u32 0, .int .u16 0, .int .u16 0], .int .i64 12]) (by simp [results, Tryz.results23, go_sem, PV, QV]) rfl ⟨hwV, rin_mk _ _ _ _ _ _ _ _ _ _ _ _ _ _ _⟩

set_option maxHeartbeats 8000000 in
theorem rinner_gre (pr : Int) (tos id ttl src dst : Int) (keep : Bool) (so sd : Value) (zd : List Int) (w : World) (hB : Mt.By zd) (hI : Rd w.heap.size w sd zd) (hl : zd.length ≤ 1099511627776) (hpi : pie 1 zd = 0) (her : erb (zd[0]?.getD 0) = true) (hrd : rde true (zd.drop 8) = 0) (hpr : (zd.drop 8)[9]?.getD 0 = pr) (h8 : 8 ≤ (qdt (zd.drop 8)).length) (hld : (qdt (zd.drop 8)).length ≤ 140737488355328) (hp : pr = 47) : Calls Tryz.prog 23 #[.agg #[.int .u8 tos, .int .u16 id, .bool keep, .int .u8 ttl, .int .u8 1, .int .u32 src, .int .u32 dst, so, sd]] w fun e w' => Below w.heap.size w w' ∧ ((rin (.agg #[.int .u8 pr, .int .u32 (wat4 (zd.drop 8) 12), .int .u32 (wat4 (zd.drop 8) 16), .int .u16 (0), .int .u16 (getAt2 (qdt (zd.drop 8)) 6)]) 0 e ∧ bgz (qdt (zd.drop 8)) ≠ 4) ∨ (rin (.agg #[.int .u8 0, .int .u32 0, .int .u32 0, .int .u16 0, .int .u16 0]) 4 e ∧ bgz (qdt (zd.drop 8)) = 4)) := by
  obtain ⟨ad, cd, rfl, _, _⟩ := hI.slice
  have hb0 : Below w.heap.size w (((w.alloc (.cells #[.int .u8 tos, .int .u16 id, .bool keep, .int .u8 ttl, .int .u8 1, .int .u32 src, .int .u32 dst, so, .slice ad zd.length cd] 26)).alloc (.cells #[.int .u8 0, .int .u16 0, .bool false, .int .u8 0, .int .u8 0, .int .u32 0, .int .u32 0, .slice none 0 0, .slice none 0 0] 26)).alloc (.cells #[.int .u8 0, .int .u32 0, .int .u32 0, .int .u16 0, .int .u16 0] 29)) := ((((Below.refl _ _).alloc (Nat.le_refl _) _).alloc (by simp) _).alloc (by simp <;> omega) _)
  have r0 : (((w.alloc (.cells #[.int .u8 tos, .int .u16 id, .bool keep, .int .u8 ttl, .int .u8 1, .int .u32 src, .int .u32 dst, so, .slice ad zd.length cd] 26)).alloc (.cells #[.int .u8 0, .int .u16 0, .bool false, .int .u8 0, .int .u8 0, .int .u32 0, .int .u32 0, .slice none 0 0, .slice none 0 0] 26)).alloc (.cells #[.int .u8 0, .int .u32 0, .int .u32 0, .int .u16 0, .int .u16 0] 29)).heap[w.heap.size + 1]? = some (.cells #[.int .u8 0, .int .u16 0, .bool false, .int .u8 0, .int .u8 0, .int .u32 0, .int .u32 0, .slice none 0 0, .slice none 0 0] 26) := by
    have := heap_alloc_new (w.alloc (.cells #[.int .u8 tos, .int .u16 id, .bool keep, .int .u8 ttl, .int .u8 1, .int .u32 src, .int .u32 dst, so, .slice ad zd.length cd] 26)) (.cells #[.int .u8 0, .int .u16 0, .bool false, .int .u8 0, .int .u8 0, .int .u32 0, .int .u32 0, .slice none 0 0, .slice none 0 0] 26)
    rw [World.size_alloc] at this
    exact (Below.heap_alloc _ _ _ (by simp)).trans this
  have s0 : (((w.alloc (.cells #[.int .u8 tos, .int .u16 id, .bool keep, .int .u8 ttl, .int .u8 1, .int .u32 src, .int .u32 dst, so, .slice ad zd.length cd] 26)).alloc (.cells #[.int .u8 0, .int .u16 0, .bool false, .int .u8 0, .int .u8 0, .int .u32 0, .int .u32 0, .slice none 0 0, .slice none 0 0] 26)).alloc (.cells #[.int .u8 0, .int .u32 0, .int .u32 0, .int .u16 0, .int .u16 0] 29)).heap[w.heap.size + 1 + 1]? = some (.cells #[.int .u8 0, .int .u32 0, .int .u32 0, .int .u16 0, .int .u16 0] 29) := by
    have := heap_alloc_new ((w.alloc (.cells #[.int .u8 tos, .int .u16 id, .bool keep, .int .u8 ttl, .int .u8 1, .int .u32 src, .int .u32 dst, so, .slice ad zd.length cd] 26)).alloc (.cells #[.int .u8 0, .int .u16 0, .bool false, .int .u8 0, .int .u8 0, .int .u32 0, .int .u32 0, .slice none 0 0, .slice none 0 0] 26)) (.cells #[.int .u8 0, .int .u32 0, .int .u32 0, .int .u16 0, .int .u16 0] 29)
    simpa only [World.size_alloc] using this
  have R0 := hide r0
  have S0 := hide s0
  clear r0 s0
  go_enter Tryz.func23, Tryz.ntmps23
  go_wp2_with fail
  generalize (((w.alloc (.cells #[.int .u8 tos, .int .u16 id, .bool keep, .int .u8 ttl, .int .u8 1, .int .u32 src, .int .u32 dst, so, .slice ad zd.length cd] 26)).alloc (.cells #[.int .u8 0, .int .u16 0, .bool false, .int .u8 0, .int .u8 0, .int .u32 0, .int .u32 0, .slice none 0 0, .slice none 0 0] 26)).alloc (.cells #[.int .u8 0, .int .u32 0, .int .u32 0, .int .u16 0, .int .u16 0] 29)) = w0 at *
  refine (rparseIcmp_any tos id ttl 1 src dst keep _ _ zd w0 hB ((hI.below hb0).mono hb0.size) hl).mono ?_
  rintro e w1 ⟨hb1, ⟨hf, rfl⟩ | ⟨hf, a1, c1, rfl, hO⟩⟩
  · exact absurd hpi hf
  · clear hf
    have la : Later w1 (w1.alloc (.cells #[.int .u8 (zd[0]?.getD 0), .int .u8 (zd[1]?.getD 0), .int .u32 (wat4 zd 4), .slice a1 (zd.length - 8) c1] 39)) := (Below.refl _ _).alloc (Nat.le_refl _) _
    have l1 := Later.trans hb1 la
    have mW := heap_alloc_new w1 (.cells #[.int .u8 (zd[0]?.getD 0), .int .u8 (zd[1]?.getD 0), .int .u32 (wat4 zd 4), .slice a1 (zd.length - 8) c1] 39)
    have rW := later_keep l1 R0.out
    have sW := later_keep l1 S0.out
    have hwW := hb0.trans (l1.mono hb0.size)
    have DW := hO.ck (CK.of la)
    go_wp2_with fail
    generalize w1.alloc (.cells #[.int .u8 (zd[0]?.getD 0), .int .u8 (zd[1]?.getD 0), .int .u32 (wat4 zd 4), .slice a1 (zd.length - 8) c1] 39) = W at *
    generalize w1.heap.size = gm at *
    refine (risError_any (zd[0]?.getD 0) (zd[1]?.getD 0) (wat4 zd 4) _ W).mono ?_
    rw [show (zd[0]?.getD 0 == 3 || (zd[0]?.getD 0 == 11 || zd[0]?.getD 0 == 12)) = true from her]
    rintro e w2 ⟨rfl, hb2⟩
    have l2 : Later W w2 := hb2
    have r2 := later_keep l2 rW
    have s2 := later_keep l2 sW
    have hw2 := hwW.trans (hb2.mono hwW.size)
    have km := block_cell (later_keep l2 mW)
    have D2 := DW.ck (CK.of l2)
    go_wp2_with fail
    clear km
    refine (rquote_any _ (zd.drop 8) w2 (hB.drop 8) (by simp; omega) D2.rd).mono ?_
    rintro e w3 ⟨hb3, ⟨hf3, _⟩ | ⟨_, qo, qs0, rfl, hO3, hD3⟩⟩
    · exact absurd hrd hf3
    obtain ⟨b7, c7, rfl, _, _⟩ := hO3.slice
    obtain ⟨b8, c8, rfl, hc8, hc9⟩ := hD3.slice
    have hBq := By_qdt (hB.drop 8)
    unfold pkt
    have HPR := hide hpr
    rw [hpr]
    clear hpr hpi her hrd
    generalize (zd.drop 8)[1]?.getD 0 = q1 at *
    generalize wat (zd.drop 8) 4 = q2 at *
    generalize decide (16384 ≤ wat (zd.drop 8) 6 % 32768) = q3 at *
    generalize (zd.drop 8)[8]?.getD 0 = q4 at *
    generalize hqs : wat4 (zd.drop 8) 12 = qs at *
    generalize hqd : wat4 (zd.drop 8) 16 = qd at *
    have HQS := hide hqs
    have HQD := hide hqd
    clear hqs hqd
    generalize (((zd.drop 8).take (hl4 (zd.drop 8)).toNat).drop 20).length = l7 at *
    clear hO3
    rw [show ((zd.drop 8).take (ral true (zd.drop 8)).toNat).drop (hl4 (zd.drop 8)).toNat = qdt (zd.drop 8) from rfl] at hD3 hc8 ⊢
    generalize hdq : qdt (zd.drop 8) = dq at *
    have HDQ := hide hdq
    clear hdq
    have la3 : Later w3 (w3.alloc (.cells #[.int .u8 q1, .int .u16 q2, .bool q3, .int .u8 q4, .int .u8 pr, .int .u32 qs, .int .u32 qd, .slice b7 l7 c7, .slice b8 dq.length c8] 26)) := (Below.refl _ _).alloc (Nat.le_refl _) _
    have lb3 : Later (w3.alloc (.cells #[.int .u8 q1, .int .u16 q2, .bool q3, .int .u8 q4, .int .u8 pr, .int .u32 qs, .int .u32 qd, .slice b7 l7 c7, .slice b8 dq.length c8] 26)) ((w3.alloc (.cells #[.int .u8 q1, .int .u16 q2, .bool q3, .int .u8 q4, .int .u8 pr, .int .u32 qs, .int .u32 qd, .slice b7 l7 c7, .slice b8 dq.length c8] 26)).alloc (.cells #[.int .u8 pr, .int .u32 qs, .int .u32 qd, .int .u16 0, .int .u16 0] 29)) := (Below.refl _ _).alloc (Nat.le_refl _) _
    have lab := la3.trans lb3
    have l3 := Later.trans hb3 lab
    have qk := later_keep lb3 (heap_alloc_new w3 (.cells #[.int .u8 q1, .int .u16 q2, .bool q3, .int .u8 q4, .int .u8 pr, .int .u32 qs, .int .u32 qd, .slice b7 l7 c7, .slice b8 dq.length c8] 26))
    have tk := heap_alloc_new (w3.alloc (.cells #[.int .u8 q1, .int .u16 q2, .bool q3, .int .u8 q4, .int .u8 pr, .int .u32 qs, .int .u32 qd, .slice b7 l7 c7, .slice b8 dq.length c8] 26)) (.cells #[.int .u8 pr, .int .u32 qs, .int .u32 qd, .int .u16 0, .int .u16 0] 29)
    rw [World.size_alloc] at tk
    have r3 := later_keep l3 r2
    have s3 := later_keep l3 s2
    have hw3 := hw2.trans (l3.mono hw2.size)
    have D3 := hD3.ck (CK.of lab)
    have hgq : w.heap.size + 1 + 1 < w3.heap.size := Nat.lt_of_lt_of_le (Array.getElem?_eq_some_iff.1 s2).1 hb3.size
    clear D2 hD3
    have HLQ : Hid (8 ≤ dq.length) := h8
    have hq6 : (pr == 6) = false := by simp [hp]
    have hq17 : (pr == 17) = false := by simp [hp]
    have hq1 : (pr == 1) = false := by simp [hp]
    have hq47 : (pr == 47) = true := by simp [hp]
    have HP := hide hp
    clear hp
    have kq := block_cell qk
    go_upto_region 23 with fail
    generalize (w3.alloc (.cells #[.int .u8 q1, .int .u16 q2, .bool q3, .int .u8 q4, .int .u8 pr, .int .u32 qs, .int .u32 qd, .slice b7 l7 c7, .slice b8 dq.length c8] 26)).alloc (.cells #[.int .u8 pr, .int .u32 qs, .int .u32 qd, .int .u16 0, .int .u16 0] 29) = w4 at *
    generalize w3.heap.size = gq at *
    clear hq6 hq17 hq1 hq47 kq
    have h8q := HLQ.out
    have kq := block_cell qk
    go_wp2_with fail
    clear kq
    refine (rbegin_any _ dq (by omega) w4 D3.rd).mono ?_
    have HBK : Hid (bgk (bgz dq) = (bgz dq != 4)) := rfl
    generalize hbk : bgk (bgz dq) = bk at *
    clear hbk
    rintro e W5 ⟨rfl, hb5⟩
    have l5 : Later w4 W5 := hb5
    have tW5 := later_keep l5 tk
    have qW5 := later_keep l5 qk
    have rW5 := later_keep l5 r3
    have sW5 := later_keep l5 s3
    have D5 := D3.ck (CK.of l5)
    have hwW5 := hw3.trans (l5.mono hw3.size)
    cases bk with
    | false =>
      have hb4 : bgz dq = 4 := by simpa using HBK.out
      have HB4 := hide hb4
      clear hb4
      have rX := rW5
      have sX := sW5
      have hwX := hwW5
      have kX := block_cell rX
      have fX := block_frozen rX
      have kS := block_cell sX
      have fS := block_frozen sX
      go_wp2_with fail
      generalize hV : (((((((((((((W5.setCell ⟨w.heap.size + 1, 0, none⟩ _).setCell ⟨w.heap.size + 1, 1, none⟩ _).setCell ⟨w.heap.size + 1, 2, none⟩ _).setCell ⟨w.heap.size + 1, 3, none⟩ _).setCell ⟨w.heap.size + 1, 4, none⟩ _).setCell ⟨w.heap.size + 1, 5, none⟩ _).setCell ⟨w.heap.size + 1, 6, none⟩ _).setCell ⟨w.heap.size + 1, 7, none⟩ _).setCell ⟨w.heap.size + 1, 8, none⟩ _).setCell ⟨w.heap.size + 1 + 1, 0, none⟩ _).setCell ⟨w.heap.size + 1 + 1, 1, none⟩ _).setCell ⟨w.heap.size + 1 + 1, 2, none⟩ _).setCell ⟨w.heap.size + 1 + 1, 3, none⟩ _).setCell ⟨w.heap.size + 1 + 1, 4, none⟩ _ = V
      have hV8 : V = putRow (putRow W5 (w.heap.size + 1) 0 [.int .u8 0, .int .u16 0, .bool false, .int .u8 0, .int .u8 0, .int .u32 0, .int .u32 0, .slice none 0 0, .slice none 0 0]) (w.heap.size + 1 + 1) 0 [.int .u8 0, .int .u32 0, .int .u32 0, .int .u16 0, .int .u16 0] := hV.symm
      have hbY : But (fun b => b = w.heap.size + 1) W5 (putRow W5 (w.heap.size + 1) 0 [.int .u8 0, .int .u16 0, .bool false, .int .u8 0, .int .u8 0, .int .u32 0, .int .u32 0, .slice none 0 0, .slice none 0 0]) := putRow_but (E := fun b => b = w.heap.size + 1) (n := w.heap.size + 1) rfl _ _ _ _ (But.refl _ _)
      have pY := putRow_all ([.int .u8 0, .int .u16 0, .bool false, .int .u8 0, .int .u8 0, .int .u32 0, .int .u32 0, .slice none 0 0, .slice none 0 0] : List Value) rX rfl
      have sY := (hbY.block (w.heap.size + 1 + 1) (Array.getElem?_eq_some_iff.1 sX).1 (by omega)).trans sX
      generalize putRow W5 (w.heap.size + 1) 0 [.int .u8 0, .int .u16 0, .bool false, .int .u8 0, .int .u8 0, .int .u32 0, .int .u32 0, .slice none 0 0, .slice none 0 0] = Y at *
      have hbV : But (fun b => b = w.heap.size + 1 + 1) Y V := by rw [hV8]; exact putRow_but (E := fun b => b = w.heap.size + 1 + 1) (n := w.heap.size + 1 + 1) rfl _ _ _ _ (But.refl _ _)
      have qV := putRow_all ([.int .u8 0, .int .u32 0, .int .u32 0, .int .u16 0, .int .u16 0] : List Value) sY rfl
      rw [← hV8] at qV
      have pV := (hbV.block (w.heap.size + 1) (Array.getElem?_eq_some_iff.1 pY).1 (by omega)).trans pY
      clear hV8 kX fX kS fS
      have PV := block_cell pV
      have QV := block_cell qV
      have hwV : Below w.heap.size w V := (hwX.trans (hbY.below hwX.size (fun k hk e => by omega))).trans (hbV.below (Nat.le_trans hwX.size hbY.size) (fun k hk e => by omega))
      exact bodyPost_ret (v := .tuple #[.agg #[.int .u8 0, .int .u16 0, .bool false, .int .u8 0, .int .u8 0, .int .u32 0, .int .u32 0, .slice none 0 0, .slice none 0 0], .agg #[.int .u8 0, .int .u32 0, .int .u32 0, .int .u16 0, .int .u16 0], .int .i64 4]) (by simp [results, Tryz.results23, go_sem, PV, QV]) rfl ⟨hwV, .inr ⟨rin_mk _ _ _ _ _ _ _ _ _ _ _ _ _ _ _, by rw [HDQ.out]; exact HB4.out⟩⟩
    | true =>
      have hb4 : bgz dq ≠ 4 := by simpa using HBK.out
      have HB4 := hide hb4
      clear hb4
      have kq := block_cell qW5
      go_wp2_with fail
      clear kq
      refine (rget16_at _ dq hBq 6 (by omega) hld W5 D5.rd).mono ?_
      rintro e W6 ⟨rfl, n6, e6⟩
      have l6 : Later W5 W6 := by rw [e6]; exact below_draw (Later.refl W5) n6
      clear e6
      have t6 := later_keep l6 tW5
      generalize hg6 : getAt2 dq 6 = g6 at *
      have HG6 := hide hg6
      clear hg6
      have kx := block_cell t6
      have fx := block_frozen t6
      go_upto_region 26 with fail
      generalize hV : W6.setCell ⟨gq + 1, 4, none⟩ _ = V8
      have tN := heap_set1 t6 4 (.int .u16 g6)
      rw [hV] at tN
      have hbV8 : But (fun b => b = gq + 1) W6 V8 := by rw [← hV]; exact (But.refl (fun b => b = gq + 1) _).setCell (p := ⟨gq + 1, 4, none⟩) rfl _
      clear hV kx fx
      simp only [List.setIfInBounds_toArray, List.set_cons_zero, List.set_cons_succ] at tN
      have hbN : But (fun b => b = gq + 1) w4 V8 := (But.of (l5.trans l6)).trans hbV8
      have qN := (hbN.block gq (Array.getElem?_eq_some_iff.1 qk).1 (by omega)).trans qk
      have rN := (hbN.block (w.heap.size + 1) (Array.getElem?_eq_some_iff.1 r3).1 (by omega)).trans r3
      have sN := (hbN.block (w.heap.size + 1 + 1) (Array.getElem?_eq_some_iff.1 s3).1 (by omega)).trans s3
      have hwN : Below w.heap.size w V8 := hw3.trans (hbN.below hw3.size (fun k hk e => by omega))
      refine anyT_begin (R := But (fun b => b = w.heap.size + 1 ∨ b = w.heap.size + 1 + 1)) 5 rfl (by kernel_rfl) ?_
      have ld : Later V8 V8.drew := Later.drew V8
      have qd0 := later_keep ld qN
      have td0 := later_keep ld tN
      have rd0 := later_keep ld rN
      have sd0 := later_keep ld sN
      have hwd := hwN.trans (ld.mono hwN.size)
      generalize V8.drew = Wd at *
      have ha : ∀ v1, But (fun b => b = w.heap.size + 1 ∨ b = w.heap.size + 1 + 1) Wd v1 → ∀ i, v1.cell? ⟨gq, i, none⟩ = #[Value.int .u8 q1, .int .u16 q2, .bool q3, .int .u8 q4, .int .u8 pr, .int .u32 qs, .int .u32 qd, .slice b7 l7 c7, .slice b8 dq.length c8][i]? := fun v1 h => block_cell ((h.block gq (Array.getElem?_eq_some_iff.1 qd0).1 (by omega)).trans qd0)
      have hb : ∀ v1, But (fun b => b = w.heap.size + 1 ∨ b = w.heap.size + 1 + 1) Wd v1 → ∀ i, v1.cell? ⟨gq + 1, i, none⟩ = #[Value.int .u8 pr, .int .u32 qs, .int .u32 qd, .int .u16 0, .int .u16 g6][i]? := fun v1 h => block_cell ((h.block (gq + 1) (Array.getElem?_eq_some_iff.1 td0).1 (by omega)).trans td0)
      refine anyT_val (But.pre _) 0 rfl (by kernel_rfl) (by kernel_rfl) (by kernel_rfl) (fun _ _ _ _ h => h) rfl ?_; apply Exists.intro; refine ⟨fun v1 hv1 => ?_, ?_⟩; (· (go_simp; rfl)); simp only [Act.put, List.setIfInBounds_toArray, List.set_cons_zero, List.set_cons_succ]
      refine anyT_val (But.pre _) 1 rfl (by kernel_rfl) (by kernel_rfl) (by kernel_rfl) (fun _ _ _ _ h => h) rfl ?_; apply Exists.intro; refine ⟨fun v1 hv1 => ?_, ?_⟩; (· (go_simp; rfl)); simp only [Act.put, List.setIfInBounds_toArray, List.set_cons_zero, List.set_cons_succ]
      clear ha hb
      have kx := block_cell rd0
      have fx := block_frozen rd0
      refine anyT_one 2 rfl (by kernel_rfl) rfl ?_
      unfold Oper.wp
      go_simp
      generalize hV1 : ((((((((Wd.setCell ⟨w.heap.size + 1, 0, none⟩ _).setCell ⟨w.heap.size + 1, 1, none⟩ _).setCell ⟨w.heap.size + 1, 2, none⟩ _).setCell ⟨w.heap.size + 1, 3, none⟩ _).setCell ⟨w.heap.size + 1, 4, none⟩ _).setCell ⟨w.heap.size + 1, 5, none⟩ _).setCell ⟨w.heap.size + 1, 6, none⟩ _).setCell ⟨w.heap.size + 1, 7, none⟩ _).setCell ⟨w.heap.size + 1, 8, none⟩ _ = Y0
      have hV9 : Y0 = putRow Wd (w.heap.size + 1) 0 [.int .u8 q1, .int .u16 q2, .bool q3, .int .u8 q4, .int .u8 pr, .int .u32 qs, .int .u32 qd, .slice b7 l7 c7, .slice b8 dq.length c8] := hV1.symm
      have hbY0 : But (fun b => b = w.heap.size + 1) Wd Y0 := by rw [hV9]; exact putRow_but (E := fun b => b = w.heap.size + 1) (n := w.heap.size + 1) rfl _ _ _ _ (But.refl _ _)
      have hbY1 : But (fun b => b = w.heap.size + 1 ∨ b = w.heap.size + 1 + 1) Wd Y0 := by rw [hV9]; exact putRow_but (E := fun b => b = w.heap.size + 1 ∨ b = w.heap.size + 1 + 1) (n := w.heap.size + 1) (.inl rfl) _ _ _ _ (But.refl _ _)
      have pY0 := putRow_all ([.int .u8 q1, .int .u16 q2, .bool q3, .int .u8 q4, .int .u8 pr, .int .u32 qs, .int .u32 qd, .slice b7 l7 c7, .slice b8 dq.length c8] : List Value) rd0 rfl
      rw [← hV9] at pY0
      have sY0 := (hbY0.block (w.heap.size + 1 + 1) (Array.getElem?_eq_some_iff.1 sd0).1 (by omega)).trans sd0
      refine ⟨hbY1, ?_⟩
      clear hV1 hV9 kx fx
      have kx := block_cell sY0
      have fx := block_frozen sY0
      refine anyT_one 3 rfl (by kernel_rfl) rfl ?_
      unfold Oper.wp
      go_simp
      generalize hV2 : ((((Y0.setCell ⟨w.heap.size + 1 + 1, 0, none⟩ _).setCell ⟨w.heap.size + 1 + 1, 1, none⟩ _).setCell ⟨w.heap.size + 1 + 1, 2, none⟩ _).setCell ⟨w.heap.size + 1 + 1, 3, none⟩ _).setCell ⟨w.heap.size + 1 + 1, 4, none⟩ _ = V
      have hV8 : V = putRow Y0 (w.heap.size + 1 + 1) 0 [.int .u8 pr, .int .u32 qs, .int .u32 qd, .int .u16 0, .int .u16 g6] := hV2.symm
      have hbV : But (fun b => b = w.heap.size + 1 + 1) Y0 V := by rw [hV8]; exact putRow_but (E := fun b => b = w.heap.size + 1 + 1) (n := w.heap.size + 1 + 1) rfl _ _ _ _ (But.refl _ _)
      have hbV1 : But (fun b => b = w.heap.size + 1 ∨ b = w.heap.size + 1 + 1) Y0 V := by rw [hV8]; exact putRow_but (E := fun b => b = w.heap.size + 1 ∨ b = w.heap.size + 1 + 1) (n := w.heap.size + 1 + 1) (.inr rfl) _ _ _ _ (But.refl _ _)
      have qV := putRow_all ([.int .u8 pr, .int .u32 qs, .int .u32 qd, .int .u16 0, .int .u16 g6] : List Value) sY0 rfl
      rw [← hV8] at qV
      have pV := (hbV.block (w.heap.size + 1) (Array.getElem?_eq_some_iff.1 pY0).1 (by omega)).trans pY0
      refine ⟨hbV1, ?_⟩
      clear hV2 hV8 kx fx
      refine anyT_one 4 rfl (by kernel_rfl) rfl ?_
      unfold Oper.wp
      go_simp
      refine ⟨But.refl _ _, ?_⟩
      refine anyT_done (by kernel_rfl) ?_
      have PV := block_cell pV
      have QV := block_cell qV
      have hwV : Below w.heap.size w V := (hwd.trans (hbY0.below hwd.size (fun k hk e => by omega))).trans (hbV.below (Nat.le_trans hwd.size hbY0.size) (fun k hk e => by omega))
      go_wp2_with fail
      exact bodyPost_ret (v := .tuple #[.agg #[.int .u8 q1, .int .u16 q2, .bool q3, .int .u8 q4, .int .u8 pr, .int .u32 qs, .int .u32 qd, .slice b7 l7 c7, .slice b8 dq.length c8], .agg #[.int .u8 pr, .int .u32 qs, .int .u32 qd, .int .u16 0, .int .u16 g6], .int .i64 0]) (by simp [results, Tryz.results23, go_sem, PV, QV]) rfl ⟨hwV, .inl ⟨by rw [HDQ.out, HG6.out, HQS.out, HQD.out]; exact rin_mk _ _ _ _ _ _ _ _ _ _ _ _ _ _ _, by rw [HDQ.out]; exact HB4.out⟩⟩

set_option maxHeartbeats 8000000 in
theorem rinner_other (pr : Int) (tos id ttl src dst : Int) (keep : Bool) (so sd : Value) (zd : List Int) (w : World) (hB : Mt.By zd) (hI : Rd w.heap.size w sd zd) (hl : zd.length ≤ 1099511627776) (hpi : pie 1 zd = 0) (her : erb (zd[0]?.getD 0) = true) (hrd : rde true (zd.drop 8) = 0) (hpr : (zd.drop 8)[9]?.getD 0 = pr) (h8 : 8 ≤ (qdt (zd.drop 8)).length) (hld : (qdt (zd.drop 8)).length ≤ 140737488355328) (hp : pr ≠ 6 ∧ pr ≠ 17 ∧ pr ≠ 1 ∧ pr ≠ 47) : Calls Tryz.prog 23 #[.agg #[.int .u8 tos, .int .u16 id, .bool keep, .int .u8 ttl, .int .u8 1, .int .u32 src, .int .u32 dst, so, sd]] w fun e w' => Below w.heap.size w w' ∧ rin (.agg #[.int .u8 0, .int .u32 0, .int .u32 0, .int .u16 0, .int .u16 0]) 12 e := by
  obtain ⟨ad, cd, rfl, _, _⟩ := hI.slice
  have hb0 : Below w.heap.size w (((w.alloc (.cells #[.int .u8 tos, .int .u16 id, .bool keep, .int .u8 ttl, .int .u8 1, .int .u32 src, .int .u32 dst, so, .slice ad zd.length cd] 26)).alloc (.cells #[.int .u8 0, .int .u16 0, .bool false, .int .u8 0, .int .u8 0, .int .u32 0, .int .u32 0, .slice none 0 0, .slice none 0 0] 26)).alloc (.cells #[.int .u8 0, .int .u32 0, .int .u32 0, .int .u16 0, .int .u16 0] 29)) := ((((Below.refl _ _).alloc (Nat.le_refl _) _).alloc (by simp) _).alloc (by simp <;> omega) _)
  have r0 : (((w.alloc (.cells #[.int .u8 tos, .int .u16 id, .bool keep, .int .u8 ttl, .int .u8 1, .int .u32 src, .int .u32 dst, so, .slice ad zd.length cd] 26)).alloc (.cells #[.int .u8 0, .int .u16 0, .bool false, .int .u8 0, .int .u8 0, .int .u32 0, .int .u32 0, .slice none 0 0, .slice none 0 0] 26)).alloc (.cells #[.int .u8 0, .int .u32 0, .int .u32 0, .int .u16 0, .int .u16 0] 29)).heap[w.heap.size + 1]? = some (.cells #[.int .u8 0, .int .u16 0, .bool false, .int .u8 0, .int .u8 0, .int .u32 0, .int .u32 0, .slice none 0 0, .slice none 0 0] 26) := by
    have := heap_alloc_new (w.alloc (.cells #[.int .u8 tos, .int .u16 id, .bool keep, .int .u8 ttl, .int .u8 1, .int .u32 src, .int .u32 dst, so, .slice ad zd.length cd] 26)) (.cells #[.int .u8 0, .int .u16 0, .bool false, .int .u8 0, .int .u8 0, .int .u32 0, .int .u32 0, .slice none 0 0, .slice none 0 0] 26)
    rw [World.size_alloc] at this
    exact (Below.heap_alloc _ _ _ (by simp)).trans this
  have s0 : (((w.alloc (.cells #[.int .u8 tos, .int .u16 id, .bool keep, .int .u8 ttl, .int .u8 1, .int .u32 src, .int .u32 dst, so, .slice ad zd.length cd] 26)).alloc (.cells #[.int .u8 0, .int .u16 0, .bool false, .int .u8 0, .int .u8 0, .int .u32 0, .int .u32 0, .slice none 0 0, .slice none 0 0] 26)).alloc (.cells #[.int .u8 0, .int .u32 0, .int .u32 0, .int .u16 0, .int .u16 0] 29)).heap[w.heap.size + 1 + 1]? = some (.cells #[.int .u8 0, .int .u32 0, .int .u32 0, .int .u16 0, .int .u16 0] 29) := by
    have := heap_alloc_new ((w.alloc (.cells #[.int .u8 tos, .int .u16 id, .bool keep, .int .u8 ttl, .int .u8 1, .int .u32 src, .int .u32 dst, so, .slice ad zd.length cd] 26)).alloc (.cells #[.int .u8 0, .int .u16 0, .bool false, .int .u8 0, .int .u8 0, .int .u32 0, .int .u32 0, .slice none 0 0, .slice none 0 0] 26)) (.cells #[.int .u8 0, .int .u32 0, .int .u32 0, .int .u16 0, .int .u16 0] 29)
    simpa only [World.size_alloc] using this
  have R0 := hide r0
  have S0 := hide s0
  clear r0 s0
  go_enter Tryz.func23, Tryz.ntmps23
  go_wp2_with fail
  generalize (((w.alloc (.cells #[.int .u8 tos, .int .u16 id, .bool keep, .int .u8 ttl, .int .u8 1, .int .u32 src, .int .u32 dst, so, .slice ad zd.length cd] 26)).alloc (.cells #[.int .u8 0, .int .u16 0, .bool false, .int .u8 0, .int .u8 0, .int .u32 0, .int .u32 0, .slice none 0 0, .slice none 0 0] 26)).alloc (.cells #[.int .u8 0, .int .u32 0, .int .u32 0, .int .u16 0, .int .u16 0] 29)) = w0 at *
  refine (rparseIcmp_any tos id ttl 1 src dst keep _ _ zd w0 hB ((hI.below hb0).mono hb0.size) hl).mono ?_
  rintro e w1 ⟨hb1, ⟨hf, rfl⟩ | ⟨hf, a1, c1, rfl, hO⟩⟩
  · exact absurd hpi hf
  · clear hf
    have la : Later w1 (w1.alloc (.cells #[.int .u8 (zd[0]?.getD 0), .int .u8 (zd[1]?.getD 0), .int .u32 (wat4 zd 4), .slice a1 (zd.length - 8) c1] 39)) := (Below.refl _ _).alloc (Nat.le_refl _) _
    have l1 := Later.trans hb1 la
    have mW := heap_alloc_new w1 (.cells #[.int .u8 (zd[0]?.getD 0), .int .u8 (zd[1]?.getD 0), .int .u32 (wat4 zd 4), .slice a1 (zd.length - 8) c1] 39)
    have rW := later_keep l1 R0.out
    have sW := later_keep l1 S0.out
    have hwW := hb0.trans (l1.mono hb0.size)
    have DW := hO.ck (CK.of la)
    go_wp2_with fail
    generalize w1.alloc (.cells #[.int .u8 (zd[0]?.getD 0), .int .u8 (zd[1]?.getD 0), .int .u32 (wat4 zd 4), .slice a1 (zd.length - 8) c1] 39) = W at *
    generalize w1.heap.size = gm at *
    refine (risError_any (zd[0]?.getD 0) (zd[1]?.getD 0) (wat4 zd 4) _ W).mono ?_
    rw [show (zd[0]?.getD 0 == 3 || (zd[0]?.getD 0 == 11 || zd[0]?.getD 0 == 12)) = true from her]
    rintro e w2 ⟨rfl, hb2⟩
    have l2 : Later W w2 := hb2
    have r2 := later_keep l2 rW
    have s2 := later_keep l2 sW
    have hw2 := hwW.trans (hb2.mono hwW.size)
    have km := block_cell (later_keep l2 mW)
    have D2 := DW.ck (CK.of l2)
    go_wp2_with fail
    clear km
    refine (rquote_any _ (zd.drop 8) w2 (hB.drop 8) (by simp; omega) D2.rd).mono ?_
    rintro e w3 ⟨hb3, ⟨hf3, _⟩ | ⟨_, qo, qs0, rfl, hO3, hD3⟩⟩
    · exact absurd hrd hf3
    obtain ⟨b7, c7, rfl, _, _⟩ := hO3.slice
    obtain ⟨b8, c8, rfl, hc8, hc9⟩ := hD3.slice
    have hBq := By_qdt (hB.drop 8)
    unfold pkt
    have HPR := hide hpr
    rw [hpr]
    clear hpr hpi her hrd
    generalize (zd.drop 8)[1]?.getD 0 = q1 at *
    generalize wat (zd.drop 8) 4 = q2 at *
    generalize decide (16384 ≤ wat (zd.drop 8) 6 % 32768) = q3 at *
    generalize (zd.drop 8)[8]?.getD 0 = q4 at *
    generalize hqs : wat4 (zd.drop 8) 12 = qs at *
    generalize hqd : wat4 (zd.drop 8) 16 = qd at *
    have HQS := hide hqs
    have HQD := hide hqd
    clear hqs hqd
    generalize (((zd.drop 8).take (hl4 (zd.drop 8)).toNat).drop 20).length = l7 at *
    clear hO3
    rw [show ((zd.drop 8).take (ral true (zd.drop 8)).toNat).drop (hl4 (zd.drop 8)).toNat = qdt (zd.drop 8) from rfl] at hD3 hc8 ⊢
    generalize hdq : qdt (zd.drop 8) = dq at *
    have HDQ := hide hdq
    clear hdq
    have la3 : Later w3 (w3.alloc (.cells #[.int .u8 q1, .int .u16 q2, .bool q3, .int .u8 q4, .int .u8 pr, .int .u32 qs, .int .u32 qd, .slice b7 l7 c7, .slice b8 dq.length c8] 26)) := (Below.refl _ _).alloc (Nat.le_refl _) _
    have lb3 : Later (w3.alloc (.cells #[.int .u8 q1, .int .u16 q2, .bool q3, .int .u8 q4, .int .u8 pr, .int .u32 qs, .int .u32 qd, .slice b7 l7 c7, .slice b8 dq.length c8] 26)) ((w3.alloc (.cells #[.int .u8 q1, .int .u16 q2, .bool q3, .int .u8 q4, .int .u8 pr, .int .u32 qs, .int .u32 qd, .slice b7 l7 c7, .slice b8 dq.length c8] 26)).alloc (.cells #[.int .u8 pr, .int .u32 qs, .int .u32 qd, .int .u16 0, .int .u16 0] 29)) := (Below.refl _ _).alloc (Nat.le_refl _) _
    have lab := la3.trans lb3
    have l3 := Later.trans hb3 lab
    have qk := later_keep lb3 (heap_alloc_new w3 (.cells #[.int .u8 q1, .int .u16 q2, .bool q3, .int .u8 q4, .int .u8 pr, .int .u32 qs, .int .u32 qd, .slice b7 l7 c7, .slice b8 dq.length c8] 26))
    have tk := heap_alloc_new (w3.alloc (.cells #[.int .u8 q1, .int .u16 q2, .bool q3, .int .u8 q4, .int .u8 pr, .int .u32 qs, .int .u32 qd, .slice b7 l7 c7, .slice b8 dq.length c8] 26)) (.cells #[.int .u8 pr, .int .u32 qs, .int .u32 qd, .int .u16 0, .int .u16 0] 29)
    rw [World.size_alloc] at tk
    have r3 := later_keep l3 r2
    have s3 := later_keep l3 s2
    have hw3 := hw2.trans (l3.mono hw2.size)
    have D3 := hD3.ck (CK.of lab)
    have hgq : w.heap.size + 1 + 1 < w3.heap.size := Nat.lt_of_lt_of_le (Array.getElem?_eq_some_iff.1 s2).1 hb3.size
    clear D2 hD3
    have HLQ : Hid (8 ≤ dq.length) := h8
    have hq6 : (pr == 6) = false := by simp [hp]
    have hq17 : (pr == 17) = false := by simp [hp]
    have hq1 : (pr == 1) = false := by simp [hp]
    have hq47 : (pr == 47) = false := by simp [hp]
    have HP := hide hp
    clear hp
    have kq := block_cell qk
    go_upto_region 13 with fail
    generalize (w3.alloc (.cells #[.int .u8 q1, .int .u16 q2, .bool q3, .int .u8 q4, .int .u8 pr, .int .u32 qs, .int .u32 qd, .slice b7 l7 c7, .slice b8 dq.length c8] 26)).alloc (.cells #[.int .u8 pr, .int .u32 qs, .int .u32 qd, .int .u16 0, .int .u16 0] 29) = w4 at *
    generalize w3.heap.size = gq at *
    clear hq6 hq17 hq1 hq47 kq
    have rX := r3
    have sX := s3
    have hwX := hw3
    have kX := block_cell rX
    have fX := block_frozen rX
    have kS := block_cell sX
    have fS := block_frozen sX
    go_wp2_with fail
    generalize hV : (((((((((((((w4.setCell ⟨w.heap.size + 1, 0, none⟩ _).setCell ⟨w.heap.size + 1, 1, none⟩ _).setCell ⟨w.heap.size + 1, 2, none⟩ _).setCell ⟨w.heap.size + 1, 3, none⟩ _).setCell ⟨w.heap.size + 1, 4, none⟩ _).setCell ⟨w.heap.size + 1, 5, none⟩ _).setCell ⟨w.heap.size + 1, 6, none⟩ _).setCell ⟨w.heap.size + 1, 7, none⟩ _).setCell ⟨w.heap.size + 1, 8, none⟩ _).setCell ⟨w.heap.size + 1 + 1, 0, none⟩ _).setCell ⟨w.heap.size + 1 + 1, 1, none⟩ _).setCell ⟨w.heap.size + 1 + 1, 2, none⟩ _).setCell ⟨w.heap.size + 1 + 1, 3, none⟩ _).setCell ⟨w.heap.size + 1 + 1, 4, none⟩ _ = V
    have hV8 : V = putRow (putRow w4 (w.heap.size + 1) 0 [.int .u8 0, .int .u16 0, .bool false, .int .u8 0, .int .u8 0, .int .u32 0, .int .u32 0, .slice none 0 0, .slice none 0 0]) (w.heap.size + 1 + 1) 0 [.int .u8 0, .int .u32 0, .int .u32 0, .int .u16 0, .int .u16 0] := hV.symm
    have hbY : But (fun b => b = w.heap.size + 1) w4 (putRow w4 (w.heap.size + 1) 0 [.int .u8 0, .int .u16 0, .bool false, .int .u8 0, .int .u8 0, .int .u32 0, .int .u32 0, .slice none 0 0, .slice none 0 0]) := putRow_but (E := fun b => b = w.heap.size + 1) (n := w.heap.size + 1) rfl _ _ _ _ (But.refl _ _)
    have pY := putRow_all ([.int .u8 0, .int .u16 0, .bool false, .int .u8 0, .int .u8 0, .int .u32 0, .int .u32 0, .slice none 0 0, .slice none 0 0] : List Value) rX rfl
    have sY := (hbY.block (w.heap.size + 1 + 1) (Array.getElem?_eq_some_iff.1 sX).1 (by omega)).trans sX
    generalize putRow w4 (w.heap.size + 1) 0 [.int .u8 0, .int .u16 0, .bool false, .int .u8 0, .int .u8 0, .int .u32 0, .int .u32 0, .slice none 0 0, .slice none 0 0] = Y at *
    have hbV : But (fun b => b = w.heap.size + 1 + 1) Y V := by rw [hV8]; exact putRow_but (E := fun b => b = w.heap.size + 1 + 1) (n := w.heap.size + 1 + 1) rfl _ _ _ _ (But.refl _ _)
    have qV := putRow_all ([.int .u8 0, .int .u32 0, .int .u32 0, .int .u16 0, .int .u16 0] : List Value) sY rfl
    rw [← hV8] at qV
    have pV := (hbV.block (w.heap.size + 1) (Array.getElem?_eq_some_iff.1 pY).1 (by omega)).trans pY
    clear hV8 kX fX kS fS
    have PV := block_cell pV
    have QV := block_cell qV
    have hwV : Below w.heap.size w V := (hwX.trans (hbY.below hwX.size (fun k hk e => by omega))).trans (hbV.below (Nat.le_trans hwX.size hbY.size) (fun k hk e => by omega))
    exact bodyPost_ret (v := .tuple #[.agg #[.int .u8 0, .int .u16 0, .bool false, .int .u8 0, .int .u8 0, .int .u32 0, .int .u32 0, .slice none 0 0, .slice none 0 0], .agg #[.int .u8 0, .int .u32 0, .int .u32 0, .int .u16 0, .int .u16 0], .int .i64 12]) (by simp [results, Tryz.results23, go_sem, PV, QV]) rfl ⟨hwV, rin_mk _ _ _ _ _ _ _ _ _ _ _ _ _ _ _⟩
end Go.Proofs.YtdabhbadcbnkhaaGreatDoor

/- Layer 5: live. -/
namespace Go.Proofs.YtdabhbadcbnkhaaGreatDoor
open Go.RowKit Go.Shelf
set_option maxRecDepth 100000
set_option linter.unusedVariables false
set_option linter.unusedSimpArgs false

def z5 : List Int := udp 3 4 false 1 2 []
end Go.Proofs.YtdabhbadcbnkhaaGreatDoor

/- The document's Inner in one form, its Quoted; the walk of TupleQuoted. -/
namespace Go.Proofs.YtdabhbadcbnkhaaGreatDoor
open Go.RowKit Go.Shelf
set_option maxRecDepth 100000
set_option linter.unusedVariables false
set_option linter.unusedSimpArgs false

theorem gat (d : List Int) (k : Nat) (p : Int) (hp : p = k) (h : k + 2 ≤ d.length) : getAt2 d p = wat d k := by
  subst hp
  unfold getAt2
  rw [if_pos (by omega), Int.toNat_natCast]
theorem begin_eq {d : List Int} (hB : Mt.By d) (h : 8 ≤ d.length) : pge 47 (d.take 8) = 4 ↔ bgz d = 4 := by
  have hl : (d.take 8).length = 8 := by simp; omega
  have hz : bgz (d.take 8) = bgz d := by unfold bgz; simp
  have hw := wat_bd (hB.take 8) 4
  have hg := ghd_bd (bgz d)
  unfold pge
  rw [if_neg (by decide), if_neg (by omega), hz]
  constructor
  · intro h4
    by_cases e : bgz d = 4
    · exact e
    · rw [if_neg e] at h4
      by_cases e2 : ((d.take 8).length : Int) < ghd (bgz d) + wat (d.take 8) 4
      · rw [if_pos e2] at h4; exact absurd h4 (by decide)
      · rw [if_neg e2, if_neg (by omega)] at h4; exact absurd h4 (by decide)
  · intro e
    rw [if_pos e]
theorem quv_agg (proto : Int) (zd : List Int) : ∃ x0 x1 x2 x3 x4 : Int, quv proto zd = .agg #[.int .u8 x0, .int .u32 x1, .int .u32 x2, .int .u16 x3, .int .u16 x4] := by
  unfold quv otv
  split
  · exact ⟨_, _, _, _, _, rfl⟩
  · exact ⟨_, _, _, _, _, rfl⟩

set_option maxHeartbeats 2000000 in
theorem rinner_any (tos id ttl proto src dst : Int) (keep : Bool) (so sd : Value) (zd : List Int) (w : World) (hB : Mt.By zd) (hI : Rd w.heap.size w sd zd) (hl : zd.length ≤ 1099511627776) : Calls Tryz.prog 23 #[.agg #[.int .u8 tos, .int .u16 id, .bool keep, .int .u8 ttl, .int .u8 proto, .int .u32 src, .int .u32 dst, so, sd]] w fun e w' => Below w.heap.size w w' ∧ rin (quv proto zd) (que proto zd) e := by
  unfold quv
  by_cases hp : proto = 1
  · subst hp
    by_cases hpi : pie 1 zd = 0
    · cases her : erb (zd[0]?.getD 0) with
      | false =>
        have hq : que 1 zd = 12 := by unfold que; rw [if_neg (fun h => h hpi), if_pos her]
        rw [otv_no (by rw [hq]; decide)]
        exact rinner_bad tos id ttl src dst keep so sd zd w hB hI hl (.inr (.inl her))
      | true =>
        by_cases hrd : rde true (zd.drop 8) = 0
        · have h8 := qdt_len (hB.drop 8) hrd
          have hBq := By_qdt (hB.drop 8)
          have hld : (qdt (zd.drop 8)).length ≤ 140737488355328 := by unfold qdt; simp only [List.length_drop, List.length_take]; omega
          have hq : que 1 zd = qie (qpr (zd.drop 8)) (qdt (zd.drop 8)) := by unfold que; rw [if_neg (fun h => h hpi), if_neg (by rw [her]; decide), if_neg (fun h => h hrd)]
          rw [hq]
          obtain ⟨pr, hpr⟩ : ∃ pr, (zd.drop 8)[9]?.getD 0 = pr := ⟨_, rfl⟩
          rw [show qpr (zd.drop 8) = pr from hpr]
          have g0 := gat (qdt (zd.drop 8)) 0 0 rfl (by omega)
          have g2 := gat (qdt (zd.drop 8)) 2 2 rfl (by omega)
          have g4 := gat (qdt (zd.drop 8)) 4 4 rfl (by omega)
          have g6 := gat (qdt (zd.drop 8)) 6 6 rfl (by omega)
          by_cases h6 : pr = 6
          · have := rinner_tcp pr tos id ttl src dst keep so sd zd w hB hI hl hpi her hrd hpr h8 hld h6
            rw [g0, g2] at this
            subst h6
            exact this
          by_cases h17 : pr = 17
          · have := rinner_udp pr tos id ttl src dst keep so sd zd w hB hI hl hpi her hrd hpr h8 hld h17
            rw [g0, g2] at this
            subst h17
            exact this
          by_cases h1 : pr = 1
          · cases hec : ecb ((qdt (zd.drop 8))[0]?.getD 0) ((qdt (zd.drop 8))[1]?.getD 0) with
            | true =>
              have := rinner_icmp pr tos id ttl src dst keep so sd zd w hB hI hl hpi her hrd hpr h8 hld h1 hec
              rw [g4] at this
              subst h1
              rw [show qie 1 (qdt (zd.drop 8)) = 0 from if_pos hec]
              exact this
            | false =>
              have := rinner_noecho pr tos id ttl src dst keep so sd zd w hB hI hl hpi her hrd hpr h8 hld h1 hec
              subst h1
              rw [show qie 1 (qdt (zd.drop 8)) = (if ecb ((qdt (zd.drop 8))[0]?.getD 0) ((qdt (zd.drop 8))[1]?.getD 0) = true then 0 else 12) from rfl, if_neg (show ¬ ecb ((qdt (zd.drop 8))[0]?.getD 0) ((qdt (zd.drop 8))[1]?.getD 0) = true by rw [hec]; decide), otv_no (show (12 : Int) ≠ 0 by decide)]
              exact this
          by_cases h47 : pr = 47
          · refine (rinner_gre pr tos id ttl src dst keep so sd zd w hB hI hl hpi her hrd hpr h8 hld h47).mono ?_
            subst h47
            rintro e w' ⟨hb, ⟨h, hb4⟩ | ⟨h, hb4⟩⟩
            · rw [g6] at h
              rw [show qie 47 (qdt (zd.drop 8)) = 0 from if_neg (fun e => hb4 ((begin_eq hBq h8).1 e))]
              exact ⟨hb, h⟩
            · rw [show qie 47 (qdt (zd.drop 8)) = 4 from if_pos ((begin_eq hBq h8).2 hb4), otv_no (show (4 : Int) ≠ 0 by decide)]
              exact ⟨hb, h⟩
          have hqi : qie pr (qdt (zd.drop 8)) = 12 := by unfold qie; rw [if_neg h6, if_neg h17, if_neg h1, if_neg h47]
          rw [hqi, otv_no (show (12 : Int) ≠ 0 by decide)]
          exact rinner_other pr tos id ttl src dst keep so sd zd w hB hI hl hpi her hrd hpr h8 hld ⟨h6, h17, h1, h47⟩
        · have hq : que 1 zd = rde true (zd.drop 8) := by unfold que; rw [if_neg (fun h => h hpi), if_neg (by rw [her]; decide), if_pos hrd]
          rw [otv_no (by rw [hq]; exact hrd)]
          exact rinner_bad tos id ttl src dst keep so sd zd w hB hI hl (.inr (.inr hrd))
    · have hq : que 1 zd = pie 1 zd := if_pos hpi
      rw [otv_no (by rw [hq]; exact hpi)]
      exact rinner_bad tos id ttl src dst keep so sd zd w hB hI hl (.inl hpi)
  · have hpi : pie proto zd = 12 := if_pos hp
    have hq : que proto zd = 12 := by unfold que; rw [if_pos (by rw [hpi]; decide)]; exact hpi
    rw [hq, otv_no (show (12 : Int) ≠ 0 by decide)]
    exact rinner_kind proto tos id ttl src dst keep so sd zd w hB hI hl hp

set_option maxHeartbeats 4000000 in
theorem rquoted_any (tos id ttl proto src dst : Int) (keep : Bool) (so sd : Value) (zd : List Int) (w : World) (hB : Mt.By zd) (hI : Rd w.heap.size w sd zd) (hl : zd.length ≤ 1099511627776) : Calls Tryz.prog 10 #[.agg #[.int .u8 tos, .int .u16 id, .bool keep, .int .u8 ttl, .int .u8 proto, .int .u32 src, .int .u32 dst, so, sd]] w fun e w' => Below w.heap.size w w' ∧ e = .returned (.tuple #[quv proto zd, .int .i64 (que proto zd)]) := by
  obtain ⟨ad, cd, rfl, _, _⟩ := hI.slice
  obtain ⟨x0, x1, x2, x3, x4, hx⟩ := quv_agg proto zd
  have hb0 : Below w.heap.size w ((w.alloc (.cells #[.int .u8 tos, .int .u16 id, .bool keep, .int .u8 ttl, .int .u8 proto, .int .u32 src, .int .u32 dst, so, .slice ad zd.length cd] 26)).alloc (.cells #[.int .u8 0, .int .u32 0, .int .u32 0, .int .u16 0, .int .u16 0] 29)) := ((Below.refl _ _).alloc (Nat.le_refl _) _).alloc (by simp) _
  have r0 := heap_alloc_new (w.alloc (.cells #[.int .u8 tos, .int .u16 id, .bool keep, .int .u8 ttl, .int .u8 proto, .int .u32 src, .int .u32 dst, so, .slice ad zd.length cd] 26)) (.cells #[.int .u8 0, .int .u32 0, .int .u32 0, .int .u16 0, .int .u16 0] 29)
  rw [World.size_alloc] at r0
  have R0 := hide r0
  clear r0
  have HX := hide hx
  clear hx
  go_enter Tryz.func10, Tryz.ntmps10
  go_wp2_with fail
  generalize ((w.alloc (.cells #[.int .u8 tos, .int .u16 id, .bool keep, .int .u8 ttl, .int .u8 proto, .int .u32 src, .int .u32 dst, so, .slice ad zd.length cd] 26)).alloc (.cells #[.int .u8 0, .int .u32 0, .int .u32 0, .int .u16 0, .int .u16 0] 29)) = w0 at *
  refine (rinner_any tos id ttl proto src dst keep _ _ zd w0 hB ((hI.below hb0).mono hb0.size) hl).mono ?_
  rw [HX.out]
  generalize hee : que proto zd = ee at *
  have HEE := hide hee
  clear hee
  rintro e w1 ⟨hb1, y0, y1, y2, y3, y4, y5, y6, y7, m7, d7, y8, m8, d8, rfl⟩
  have l1 : Later w0 w1 := hb1
  have la : Later w1 (w1.alloc (.cells #[.int .u8 y0, .int .u16 y1, .bool y2, .int .u8 y3, .int .u8 y4, .int .u32 y5, .int .u32 y6, .slice y7 m7 d7, .slice y8 m8 d8] 26)) := (Below.refl _ _).alloc (Nat.le_refl _) _
  have lb : Later (w1.alloc (.cells #[.int .u8 y0, .int .u16 y1, .bool y2, .int .u8 y3, .int .u8 y4, .int .u32 y5, .int .u32 y6, .slice y7 m7 d7, .slice y8 m8 d8] 26)) ((w1.alloc (.cells #[.int .u8 y0, .int .u16 y1, .bool y2, .int .u8 y3, .int .u8 y4, .int .u32 y5, .int .u32 y6, .slice y7 m7 d7, .slice y8 m8 d8] 26)).alloc (.cells #[.int .u8 x0, .int .u32 x1, .int .u32 x2, .int .u16 x3, .int .u16 x4] 29)) := (Below.refl _ _).alloc (Nat.le_refl _) _
  have tk := heap_alloc_new (w1.alloc (.cells #[.int .u8 y0, .int .u16 y1, .bool y2, .int .u8 y3, .int .u8 y4, .int .u32 y5, .int .u32 y6, .slice y7 m7 d7, .slice y8 m8 d8] 26)) (.cells #[.int .u8 x0, .int .u32 x1, .int .u32 x2, .int .u16 x3, .int .u16 x4] 29)
  rw [World.size_alloc] at tk
  have l2 := l1.trans (la.trans lb)
  have rX := later_keep l2 R0.out
  have hwX := hb0.trans (l2.mono hb0.size)
  have kX := block_cell rX
  have fX := block_frozen rX
  have kt := block_cell tk
  go_wp2_with fail
  generalize (w1.alloc (.cells #[.int .u8 y0, .int .u16 y1, .bool y2, .int .u8 y3, .int .u8 y4, .int .u32 y5, .int .u32 y6, .slice y7 m7 d7, .slice y8 m8 d8] 26)).alloc (.cells #[.int .u8 x0, .int .u32 x1, .int .u32 x2, .int .u16 x3, .int .u16 x4] 29) = W at *
  generalize hV : ((((W.setCell ⟨w.heap.size + 1, 0, none⟩ _).setCell ⟨w.heap.size + 1, 1, none⟩ _).setCell ⟨w.heap.size + 1, 2, none⟩ _).setCell ⟨w.heap.size + 1, 3, none⟩ _).setCell ⟨w.heap.size + 1, 4, none⟩ _ = V
  have hV8 : V = putRow W (w.heap.size + 1) 0 [.int .u8 x0, .int .u32 x1, .int .u32 x2, .int .u16 x3, .int .u16 x4] := hV.symm
  have hbV : But (fun b => b = w.heap.size + 1) W V := by rw [hV8]; exact putRow_but (E := fun b => b = w.heap.size + 1) (n := w.heap.size + 1) rfl _ _ _ _ (But.refl _ _)
  have pV := putRow_all ([.int .u8 x0, .int .u32 x1, .int .u32 x2, .int .u16 x3, .int .u16 x4] : List Value) rX rfl
  rw [← hV8] at pV
  clear hV hV8 kX fX kt
  have PV := block_cell pV
  have hwV : Below w.heap.size w V := hwX.trans (hbV.below hwX.size (fun k hk e => by omega))
  exact bodyPost_ret (v := .tuple #[.agg #[.int .u8 x0, .int .u32 x1, .int .u32 x2, .int .u16 x3, .int .u16 x4], .int .i64 ee]) (by simp [results, Tryz.results10, go_sem, PV]) rfl ⟨hwV, by rw [HX.out, HEE.out]⟩

end Go.Proofs.YtdabhbadcbnkhaaGreatDoor

/- The walk of MangleTells. -/
namespace Go.Proofs.YtdabhbadcbnkhaaGreatDoor
open Go.RowKit Go.Shelf
set_option maxRecDepth 100000
set_option linter.unusedVariables false
set_option linter.unusedSimpArgs false

theorem rqe_zero {pr tp : Int} {lo : Nat} {zd : List Int} (h : rqe pr tp lo zd = 0) : que pr zd = 0 ∧ qpr (zd.drop 8) = tp ∧ flt lo (8 + (zd.drop 8).length) = 0 := by
  unfold rqe at h
  split at h
  · rename_i h1; exact absurd h h1
  split at h
  · exact absurd h (by decide)
  · rename_i h1 h2; exact ⟨by simpa using h1, by simpa using h2, h⟩

/-- What the requoted message tells, to who reads it. -/
theorem rqt_quoted {pr : Int} {zd : List Int} {s d a b : Int} (hB : Mt.By zd) (h : que pr zd = 0) (hs : 0 ≤ s ∧ s ≤ 4294967295) (hd : 0 ≤ d ∧ d ≤ 4294967295) (ha : 0 ≤ a ∧ a ≤ 65535) (hb : 0 ≤ b ∧ b ≤ 65535) :
    Mt.By (icm (zd[0]?.getD 0) (zd[1]?.getD 0) (wat4 zd 4) (rqt (qun (zd.drop 8) s d a b) (zd.drop 8))) ∧
    que 1 (icm (zd[0]?.getD 0) (zd[1]?.getD 0) (wat4 zd 4) (rqt (qun (zd.drop 8) s d a b) (zd.drop 8))) = 0 ∧
    quv 1 (icm (zd[0]?.getD 0) (zd[1]?.getD 0) (wat4 zd 4) (rqt (qun (zd.drop 8) s d a b) (zd.drop 8))) = .agg #[.int .u8 (qpr (zd.drop 8)), .int .u32 s, .int .u32 d, .int .u16 (tla (qpr (zd.drop 8)) a), .int .u16 (tlb (qpr (zd.drop 8)) a b)] ∧
    pie 1 (icm (zd[0]?.getD 0) (zd[1]?.getD 0) (wat4 zd 4) (rqt (qun (zd.drop 8) s d a b) (zd.drop 8))) = 0 ∧ pie pr zd = 0 := by
  obtain ⟨hpi, her, hrd, hqi⟩ := que_zero h
  have hBm := hB.drop 8
  have hBr : Mt.By (rqt (qun (zd.drop 8) s d a b) (zd.drop 8)) := by
    refine ((rnm_by (hBm.take _) hs hd).append ((qsD_by (By_qdt hBm) ?_).append (hBm.drop _)))
    exact ⟨hs, hd, ha, hb⟩
  obtain ⟨t1, t2, t3, t4, t5⟩ := rqt_tells (a := a) (b := b) hBm hrd hqi hs hd ha hb
  have h8 := qdt_len hBm hrd
  have hok := qie_pok hqi
  have q1 := qie_qsD (u := qun (zd.drop 8) s d a b) hqi h8
  have q2 := qia_qsD (u := qun (zd.drop 8) s d a b) hok h8 ⟨hs, hd, ha, hb⟩
  have hty := Mt.By.at hB 0
  have hco := Mt.By.at hB 1
  have hre := wat4_bd9 hB 4
  generalize rqt (qun (zd.drop 8) s d a b) (zd.drop 8) = rz at *
  generalize hqp : qpr (zd.drop 8) = qp at *
  have e0 := icm_0 (zd[0]?.getD 0) (zd[1]?.getD 0) (wat4 zd 4) rz
  have ed := icm_drop (zd[0]?.getD 0) (zd[1]?.getD 0) (wat4 zd 4) rz
  have ep := icm_pie (zd[0]?.getD 0) (zd[1]?.getD 0) (wat4 zd 4) rz hty hco hre hBr
  have eB := By_icm (zd[0]?.getD 0) (zd[1]?.getD 0) (wat4 zd 4) rz hty hco hre hBr
  generalize icm (zd[0]?.getD 0) (zd[1]?.getD 0) (wat4 zd 4) rz = Z at *
  have hz : que 1 Z = 0 := by
    unfold que
    rw [if_neg (by rw [ep]; simp), e0, if_neg (by rw [her]; decide), ed, if_neg (by rw [t1]; simp), t2, t5]
    exact q1
  refine ⟨eB, hz, ?_, ep, hpi⟩
  unfold quv
  rw [hz, otv_ok, ed, t2, t3, t4, t5, q2.1, q2.2]
  rfl

set_option maxHeartbeats 16000000 in
theorem walk_MangleTells (w : World) (hT : Tb w) (tos id ttl pr src dst : Int) (keep : Bool) (so sd : Value) (zo zd : List Int) (hBo : Mt.By zo) (hBd : Mt.By zd) (hIo : Rd w.heap.size w so zo) (hId : Rd w.heap.size w sd zd) (hlo : zo.length ≤ 140737488351232) (hld : zd.length ≤ 140737488351232)
    (ht : 0 ≤ tos ∧ tos ≤ 255) (hid : 0 ≤ id ∧ id ≤ 65535) (htt : 0 ≤ ttl ∧ ttl ≤ 255) (hpr : 0 ≤ pr ∧ pr ≤ 255) (hsr : 0 ≤ src ∧ src ≤ 4294967295) (hds : 0 ≤ dst ∧ dst ≤ 4294967295)
    (ns nd : Int) (hns : 0 ≤ ns ∧ ns ≤ 4294967295) (hnd : 0 ≤ nd ∧ nd ≤ 4294967295)
    (tp s d a b : Int) (htp : 0 ≤ tp ∧ tp ≤ 255) (hs : 0 ≤ s ∧ s ≤ 4294967295) (hd : 0 ≤ d ∧ d ≤ 4294967295) (ha : 0 ≤ a ∧ a ≤ 65535) (hb : 0 ≤ b ∧ b ≤ 65535) :
    Calls Tryz.prog 4 #[.agg #[.int .u8 tos, .int .u16 id, .bool keep, .int .u8 ttl, .int .u8 pr, .int .u32 src, .int .u32 dst, so, sd], .agg #[.int .u32 ns, .int .u32 nd], .agg #[.int .u8 tp, .int .u32 s, .int .u32 d, .int .u16 a, .int .u16 b]] w fun e w' => e = .returned (.bool true) ∧ Below w.heap.size w w' := by
  obtain ⟨ao, co, rfl, hlo1, hmo1⟩ := hIo.slice
  obtain ⟨ad, cd, rfl, hl1, hm1⟩ := hId.slice
  have hb0 : Below w.heap.size w (((w.alloc (.cells #[.int .u8 tos, .int .u16 id, .bool keep, .int .u8 ttl, .int .u8 pr, .int .u32 src, .int .u32 dst, .slice ao zo.length co, .slice ad zd.length cd] 26)).alloc (.cells #[.int .u32 ns, .int .u32 nd] 27)).alloc (.cells #[.int .u8 tp, .int .u32 s, .int .u32 d, .int .u16 a, .int .u16 b] 29)) := (((Below.refl _ _).alloc (Nat.le_refl _) _).alloc (by simp) _).alloc (by simp <;> omega) _
  have p0 : (((w.alloc (.cells #[.int .u8 tos, .int .u16 id, .bool keep, .int .u8 ttl, .int .u8 pr, .int .u32 src, .int .u32 dst, .slice ao zo.length co, .slice ad zd.length cd] 26)).alloc (.cells #[.int .u32 ns, .int .u32 nd] 27)).alloc (.cells #[.int .u8 tp, .int .u32 s, .int .u32 d, .int .u16 a, .int .u16 b] 29)).heap[w.heap.size]? = some (.cells #[.int .u8 tos, .int .u16 id, .bool keep, .int .u8 ttl, .int .u8 pr, .int .u32 src, .int .u32 dst, .slice ao zo.length co, .slice ad zd.length cd] 26) := (Below.heap_alloc _ _ _ (by simp <;> omega)).trans ((Below.heap_alloc _ _ _ (by simp)).trans (heap_alloc_new w _))
  have q0 : (((w.alloc (.cells #[.int .u8 tos, .int .u16 id, .bool keep, .int .u8 ttl, .int .u8 pr, .int .u32 src, .int .u32 dst, .slice ao zo.length co, .slice ad zd.length cd] 26)).alloc (.cells #[.int .u32 ns, .int .u32 nd] 27)).alloc (.cells #[.int .u8 tp, .int .u32 s, .int .u32 d, .int .u16 a, .int .u16 b] 29)).heap[w.heap.size + 1]? = some (.cells #[.int .u32 ns, .int .u32 nd] 27) := by
    have := heap_alloc_new (w.alloc (.cells #[.int .u8 tos, .int .u16 id, .bool keep, .int .u8 ttl, .int .u8 pr, .int .u32 src, .int .u32 dst, .slice ao zo.length co, .slice ad zd.length cd] 26)) (.cells #[.int .u32 ns, .int .u32 nd] 27)
    rw [World.size_alloc] at this
    exact (Below.heap_alloc _ _ _ (by simp)).trans this
  have t0 : (((w.alloc (.cells #[.int .u8 tos, .int .u16 id, .bool keep, .int .u8 ttl, .int .u8 pr, .int .u32 src, .int .u32 dst, .slice ao zo.length co, .slice ad zd.length cd] 26)).alloc (.cells #[.int .u32 ns, .int .u32 nd] 27)).alloc (.cells #[.int .u8 tp, .int .u32 s, .int .u32 d, .int .u16 a, .int .u16 b] 29)).heap[w.heap.size + 1 + 1]? = some (.cells #[.int .u8 tp, .int .u32 s, .int .u32 d, .int .u16 a, .int .u16 b] 29) := by
    have := heap_alloc_new ((w.alloc (.cells #[.int .u8 tos, .int .u16 id, .bool keep, .int .u8 ttl, .int .u8 pr, .int .u32 src, .int .u32 dst, .slice ao zo.length co, .slice ad zd.length cd] 26)).alloc (.cells #[.int .u32 ns, .int .u32 nd] 27)) (.cells #[.int .u8 tp, .int .u32 s, .int .u32 d, .int .u16 a, .int .u16 b] 29)
    simpa only [World.size_alloc] using this
  have P0 := hide p0
  have L0' := hide q0
  have T0 := hide t0
  clear p0 q0 t0
  go_enter Tryz.func4, Tryz.ntmps4
  go_upto_region 1 with fail
  generalize ((w.alloc _).alloc _).alloc _ = W0 at *
  have L0 : Later w W0 := hb0
  have kP := block_cell P0.out
  have kL := block_cell L0'.out
  have kT := block_cell T0.out
  have hIo0 := (hIo.below L0).mono L0.size
  have hId0 := (hId.below L0).mono L0.size
  have HRW := hide (requote_any tos id ttl pr src dst keep _ _ zo zd ns nd tp s d a b W0 (hT.below hb0 hT.pos) hBo hBd hIo0 hId0 (by omega) hld ht hid htt hns hnd hs hd ha hb)
  go_wp2_with fail
  refine HRW.out.mono ?_
  rintro e w1 ⟨hb1, ⟨hf, rfl⟩ | ⟨hf, ao2, co2, ad2, cd2, rfl, hOo, hOd⟩⟩
  · have l1 : Later W0 w1 := hb1
    generalize rqe pr tp zo.length zd = er at *
    have t1 : (er != 0) = true := by simp [hf]
    rw [show (zpk.toArray) = #[.int .u8 0, .int .u16 0, .bool false, .int .u8 0, .int .u8 0, .int .u32 0, .int .u32 0, .slice none 0 0, .slice none 0 0] from rfl]
    have l2 := later_alloc' w1 (.cells #[.int .u8 0, .int .u16 0, .bool false, .int .u8 0, .int .u8 0, .int .u32 0, .int .u32 0, .slice none 0 0, .slice none 0 0] 26)
    have KQ := hide (heap_alloc_new w1 (.cells #[.int .u8 0, .int .u16 0, .bool false, .int .u8 0, .int .u8 0, .int .u32 0, .int .u32 0, .slice none 0 0, .slice none 0 0] 26))
    clear kP kL kT HRW hf
    go_upto_region 3 with fail
    generalize w1.alloc _ = w2 at *
    have L2 : Later w w2 := L0.trans (l1.trans l2)
    go_wp2_with fail
    refine (live10_any w2 (hT.below L2 hT.pos)).mono ?_
    rintro e w3 ⟨rfl, l3⟩
    have kQ := block_cell ((l3.block w1.heap.size (Array.getElem?_eq_some_iff.1 KQ.out).1).trans KQ.out)
    have HS := hide (rsame_any 0 0 0 0 0 0 0 0 0 0 0 0 false false (.slice none 0 0) (.slice none 0 0) (.slice none 0 0) (.slice none 0 0) [] [] [] [] w3 Mt.By.nil Mt.By.nil Mt.By.nil Mt.By.nil (zero_rd' w3) (zero_rd' w3) (zero_rd' w3) (zero_rd' w3))
    rw [show smP 0 0 0 0 0 0 0 0 0 0 0 0 false false [] [] [] [] = true from by decide] at HS
    go_wp2_with fail
    refine HS.out.mono ?_
    rintro e w4 ⟨rfl, l4⟩
    go_wp2_with fail
    go_ret
    exact ⟨rfl, L2.trans (l3.trans l4)⟩
  · have l1 : Later W0 w1 := hb1
    obtain ⟨hqe, hpt, hfl⟩ := rqe_zero hf
    have HTD := hide (fun v => told10_any tp s d a b v)
    have h65 : 8 + (zd.drop 8).length ≤ 65535 := by have := flt_fit2 hfl; omega
    have h66 : zd.length ≤ 65535 := by have := h65; rw [List.length_drop] at this; omega
    obtain ⟨zB, zq, zv, zp, hpi⟩ := rqt_quoted (s := s) (d := d) (a := a) (b := b) hBd hqe hs hd ha hb
    rw [hpt] at zv
    have zl : (icm (zd[0]?.getD 0) (zd[1]?.getD 0) (wat4 zd 4) (rqt (qun (zd.drop 8) s d a b) (zd.drop 8))).length = 8 + (zd.drop 8).length := by rw [icm_length, rqt_length (hBd.drop 8) (que_zero hqe).2.2.1]
    have z0 := icm_0 (zd[0]?.getD 0) (zd[1]?.getD 0) (wat4 zd 4) (rqt (qun (zd.drop 8) s d a b) (zd.drop 8))
    have z1 := icm_1 (zd[0]?.getD 0) (zd[1]?.getD 0) (wat4 zd 4) (rqt (qun (zd.drop 8) s d a b) (zd.drop 8))
    have z4 := icm_4 (zd[0]?.getD 0) (zd[1]?.getD 0) (wat4 zd 4) (rqt (qun (zd.drop 8) s d a b) (zd.drop 8))
    generalize icm (zd[0]?.getD 0) (zd[1]?.getD 0) (wat4 zd 4) (rqt (qun (zd.drop 8) s d a b) (zd.drop 8)) = Z at *
    have H1 := hide (fun (v : World) so sd (h : Rd v.heap.size v sd Z) => rquoted_any tos id ttl 1 ns nd keep so sd Z v zB h (by omega))
    have H2 := hide (fun (v : World) so sd (h : Rd v.heap.size v sd zd) => rparseIcmp_any tos id ttl pr src dst keep so sd zd v hBd h (by omega))
    have H3 := hide (fun (v : World) so sd (h : Rd v.heap.size v sd Z) => rparseIcmp_any tos id ttl 1 ns nd keep so sd Z v zB h (by omega))
    have hn8 : Z.length - 8 = (zd.drop 8).length := by omega
    have hm8 : zd.length - 8 = (zd.drop 8).length := by rw [List.length_drop]
    rw [zq, zv] at H1
    rw [hm8] at H2
    rw [z0, z1, z4, hn8] at H3
    have HPI := hide hpi
    have HZP := hide zp
    have HLN := hide zl
    rw [zl.symm] at hOd
    have hcap : (Value.slice ad2 (8 + (zd.drop 8).length) cd2) = .slice ad2 Z.length cd2 := by rw [zl]
    rw [hcap]
    obtain ⟨ln, hln⟩ : ∃ n, Z.length = n := ⟨_, rfl⟩
    rw [hln] at hOd ⊢
    clear kP kL kT HRW hf hqe hfl h65 h66 zq zv zl z0 z1 z4 hn8 hm8 hcap hpi zp hpt HLN hln
    generalize zd[0]?.getD 0 = ty at *
    generalize zd[1]?.getD 0 = cde at *
    generalize wat4 zd 4 = rs at *
    generalize (zd.drop 8).length = lm at *
    generalize tla tp a = ta at *
    generalize tlb tp a b = tb at *
    have l2 := later_alloc' w1 (.cells #[.int .u8 tos, .int .u16 id, .bool keep, .int .u8 ttl, .int .u8 1, .int .u32 ns, .int .u32 nd, .slice ao2 zo.length co2, .slice ad2 ln cd2] 26)
    have KQ := hide (heap_alloc_new w1 (.cells #[.int .u8 tos, .int .u16 id, .bool keep, .int .u8 ttl, .int .u8 1, .int .u32 ns, .int .u32 nd, .slice ao2 zo.length co2, .slice ad2 ln cd2] 26))
    go_upto_region 4 with fail
    generalize w1.alloc _ = w2 at *
    have D2 := hide (hOd.later l2)
    have HQ1 := hide (H1.out w2 (.slice ao2 zo.length co2) _ D2.out.rd)
    have kQ := block_cell KQ.out
    go_wp2_with fail
    refine HQ1.out.mono ?_
    rintro e w3 ⟨hb3, rfl⟩
    have l3 : Later w2 w3 := hb3
    have l4 := later_alloc' w3 (.cells #[.int .u8 tp, .int .u32 s, .int .u32 d, .int .u16 ta, .int .u16 tb] 29)
    have KS := hide (heap_alloc_new w3 (.cells #[.int .u8 tp, .int .u32 s, .int .u32 d, .int .u16 ta, .int .u16 tb] 29))
    clear kQ HQ1 hb3
    go_upto_region 5 with fail
    generalize w3.alloc _ = w4 at *
    have L4 : Later w w4 := L0.trans (l1.trans (l2.trans (l3.trans l4)))
    have HQ2 := hide (H2.out w4 (.slice ao zo.length co) _ ((hId.below L4).mono L4.size))
    have kP := block_cell (((l1.trans (l2.trans (l3.trans l4))).block w.heap.size (Array.getElem?_eq_some_iff.1 P0.out).1).trans P0.out)
    go_wp2_with fail
    refine HQ2.out.mono ?_
    rintro e w5 ⟨hb5, ⟨hff, _⟩ | ⟨_, a5, c5, rfl, _⟩⟩
    · exact absurd HPI.out hff
    have l5 : Later w4 w5 := hb5
    have l6 := later_alloc' w5 (.cells #[.int .u8 ty, .int .u8 cde, .int .u32 rs, .slice a5 lm c5] 39)
    have KM := hide (heap_alloc_new w5 (.cells #[.int .u8 ty, .int .u8 cde, .int .u32 rs, .slice a5 lm c5] 39))
    clear kP HQ2 hb5
    go_upto_region 6 with fail
    generalize w5.alloc _ = w6 at *
    have HQ3 := hide (H3.out w6 (.slice ao2 zo.length co2) _ ((D2.out.later (l3.trans (l4.trans (l5.trans l6)))).rd))
    have kQ := block_cell (((l3.trans (l4.trans (l5.trans l6))).block w1.heap.size (Array.getElem?_eq_some_iff.1 KQ.out).1).trans KQ.out)
    go_wp2_with fail
    refine HQ3.out.mono ?_
    rintro e w7 ⟨hb7, ⟨hff, _⟩ | ⟨_, a7, c7, rfl, _⟩⟩
    · exact absurd HZP.out hff
    have l7 : Later w6 w7 := hb7
    have l8 := later_alloc' w7 (.cells #[.int .u8 ty, .int .u8 cde, .int .u32 rs, .slice a7 lm c7] 39)
    have KN := hide (heap_alloc_new w7 (.cells #[.int .u8 ty, .int .u8 cde, .int .u32 rs, .slice a7 lm c7] 39))
    clear kQ HQ3 hb7
    go_upto_region 7 with fail
    generalize w7.alloc _ = w8 at *
    have L8 : Later w w8 := L4.trans (l5.trans (l6.trans (l7.trans l8)))
    have l58 := l5.trans (l6.trans (l7.trans l8))
    have l18 := l1.trans (l2.trans (l3.trans (l4.trans l58)))
    refine anyR_begin (R := Later) Later.pre Later.drew 64 rfl (by kernel_rfl) (fun V0 hV0 => ?_)
    have HTb : Hid (∀ v, Later V0 v → Tb v) := fun v hv => hT.below (L8.trans (hV0.trans hv)) hT.pos
    have qL : ∀ v, Later V0 v → ∀ j, v.cell? ⟨w.heap.size + 1, j, none⟩ = #[Value.int .u32 ns, .int .u32 nd][j]? := fun v hv => block_cell (((l18.trans (hV0.trans hv)).block (w.heap.size + 1) (Array.getElem?_eq_some_iff.1 L0'.out).1).trans L0'.out)
    have qT : ∀ v, Later V0 v → ∀ j, v.cell? ⟨w.heap.size + 1 + 1, j, none⟩ = #[Value.int .u8 tp, .int .u32 s, .int .u32 d, .int .u16 a, .int .u16 b][j]? := fun v hv => block_cell (((l18.trans (hV0.trans hv)).block (w.heap.size + 1 + 1) (Array.getElem?_eq_some_iff.1 T0.out).1).trans T0.out)
    have qQ : ∀ v, Later V0 v → ∀ j, v.cell? ⟨w1.heap.size, j, none⟩ = #[Value.int .u8 tos, .int .u16 id, .bool keep, .int .u8 ttl, .int .u8 1, .int .u32 ns, .int .u32 nd, .slice ao2 zo.length co2, .slice ad2 ln cd2][j]? := fun v hv => block_cell (((l3.trans (l4.trans (l58.trans (hV0.trans hv)))).block w1.heap.size (Array.getElem?_eq_some_iff.1 KQ.out).1).trans KQ.out)
    have qS : ∀ v, Later V0 v → ∀ j, v.cell? ⟨w3.heap.size, j, none⟩ = #[Value.int .u8 tp, .int .u32 s, .int .u32 d, .int .u16 ta, .int .u16 tb][j]? := fun v hv => block_cell (((l58.trans (hV0.trans hv)).block w3.heap.size (Array.getElem?_eq_some_iff.1 KS.out).1).trans KS.out)
    have qM : ∀ v, Later V0 v → ∀ j, v.cell? ⟨w5.heap.size, j, none⟩ = #[Value.int .u8 ty, .int .u8 cde, .int .u32 rs, .slice a5 lm c5][j]? := fun v hv => block_cell (((l7.trans (l8.trans (hV0.trans hv))).block w5.heap.size (Array.getElem?_eq_some_iff.1 KM.out).1).trans KM.out)
    have qN : ∀ v, Later V0 v → ∀ j, v.cell? ⟨w7.heap.size, j, none⟩ = #[Value.int .u8 ty, .int .u8 cde, .int .u32 rs, .slice a7 lm c7][j]? := fun v hv => block_cell (((hV0.trans hv).block w7.heap.size (Array.getElem?_eq_some_iff.1 KN.out).1).trans KN.out)
    refine anyR_take Later.pre 0 (.bool true) rfl (by kernel_rfl) (by kernel_rfl) (by kernel_rfl) (fun _ _ _ h => h) rfl (fun v1 hv1 => goes_call 8 #[] (by go_simp) (live10_any v1 (HTb.out v1 hv1))) ?_
    simp only [Act.put, List.setIfInBounds_toArray, List.set_cons_zero, List.set_cons_succ]
    refine anyR_val Later.pre 1 rfl (by kernel_rfl) (by kernel_rfl) (by kernel_rfl) (fun _ _ _ _ h => h) rfl ?_; apply Exists.intro; refine ⟨fun v1 hv1 => ?_, ?_⟩; (· (go_simp; rfl)); simp only [Act.put, List.setIfInBounds_toArray, List.set_cons_zero, List.set_cons_succ]
    refine anyR_valG Later.pre 2 rfl (by kernel_rfl) (by kernel_rfl) (by kernel_rfl) (fun _ _ _ _ h => h) (by rfl) ?_; apply Exists.intro; refine ⟨fun v1 hv1 => ?_, ?_⟩; (· (go_simp; rfl)); simp only [Act.put, List.setIfInBounds_toArray, List.set_cons_zero, List.set_cons_succ]
    refine anyR_valG Later.pre 3 rfl (by kernel_rfl) (by kernel_rfl) (by kernel_rfl) (fun _ _ _ _ h => h) (by rfl) ?_; apply Exists.intro; refine ⟨fun v1 hv1 => ?_, ?_⟩; (· (go_simp; rfl)); simp only [Act.put, List.setIfInBounds_toArray, List.set_cons_zero, List.set_cons_succ]
    refine anyR_val Later.pre 4 rfl (by kernel_rfl) (by kernel_rfl) (by kernel_rfl) (fun _ _ _ _ h => h) rfl ?_; apply Exists.intro; refine ⟨fun v1 hv1 => ?_, ?_⟩; (· (go_simp; rfl)); simp only [Act.put, List.setIfInBounds_toArray, List.set_cons_zero, List.set_cons_succ]
    refine anyR_val Later.pre 5 rfl (by kernel_rfl) (by kernel_rfl) (by kernel_rfl) (fun _ _ _ _ h => h) rfl ?_; apply Exists.intro; refine ⟨fun v1 hv1 => ?_, ?_⟩; (· (go_simp; rfl)); simp only [Act.put, List.setIfInBounds_toArray, List.set_cons_zero, List.set_cons_succ]
    refine anyR_valG Later.pre 6 rfl (by kernel_rfl) (by kernel_rfl) (by kernel_rfl) (fun _ _ _ _ h => h) (by rfl) ?_; apply Exists.intro; refine ⟨fun v1 hv1 => ?_, ?_⟩; (· (go_simp; rfl)); simp only [Act.put, List.setIfInBounds_toArray, List.set_cons_zero, List.set_cons_succ]
    refine anyR_valG Later.pre 7 rfl (by kernel_rfl) (by kernel_rfl) (by kernel_rfl) (fun _ _ _ _ h => h) (by rfl) ?_; apply Exists.intro; refine ⟨fun v1 hv1 => ?_, ?_⟩; (· (go_simp; rfl)); simp only [Act.put, List.setIfInBounds_toArray, List.set_cons_zero, List.set_cons_succ]
    refine anyR_takeG Later.pre 8 (.agg #[.int .u8 tp, .int .u32 s, .int .u32 d, .int .u16 ta, .int .u16 tb]) rfl (by kernel_rfl) (by kernel_rfl) (by kernel_rfl) (fun _ _ _ h => h) (by rfl) (fun v1 hv1 => goes_call 12 #[.agg #[.int .u8 tp, .int .u32 s, .int .u32 d, .int .u16 a, .int .u16 b]] (by go_simp) (HTD.out v1)) ?_
    simp only [Act.put, List.setIfInBounds_toArray, List.set_cons_zero, List.set_cons_succ]
    refine anyR_valG Later.pre 9 rfl (by kernel_rfl) (by kernel_rfl) (by kernel_rfl) (fun _ _ _ _ h => h) (by rfl) ?_; apply Exists.intro; refine ⟨fun v1 hv1 => ?_, ?_⟩; (· (go_simp; rfl)); simp only [Act.put, List.setIfInBounds_toArray, List.set_cons_zero, List.set_cons_succ]
    refine anyR_val Later.pre 10 rfl (by kernel_rfl) (by kernel_rfl) (by kernel_rfl) (fun _ _ _ _ h => h) rfl ?_; apply Exists.intro; refine ⟨fun v1 hv1 => ?_, ?_⟩; (· (go_simp; rfl)); simp only [Act.put, List.setIfInBounds_toArray, List.set_cons_zero, List.set_cons_succ]
    refine anyR_val Later.pre 11 rfl (by kernel_rfl) (by kernel_rfl) (by kernel_rfl) (fun _ _ _ _ h => h) rfl ?_; apply Exists.intro; refine ⟨fun v1 hv1 => ?_, ?_⟩; (· (go_simp; rfl)); simp only [Act.put, List.setIfInBounds_toArray, List.set_cons_zero, List.set_cons_succ]
    refine anyR_valG Later.pre 12 rfl (by kernel_rfl) (by kernel_rfl) (by kernel_rfl) (fun _ _ _ _ h => h) (by rfl) ?_; apply Exists.intro; refine ⟨fun v1 hv1 => ?_, ?_⟩; (· (go_simp; rfl)); simp only [Act.put, List.setIfInBounds_toArray, List.set_cons_zero, List.set_cons_succ]
    refine anyR_valG Later.pre 13 rfl (by kernel_rfl) (by kernel_rfl) (by kernel_rfl) (fun _ _ _ _ h => h) (by rfl) ?_; apply Exists.intro; refine ⟨fun v1 hv1 => ?_, ?_⟩; (· (go_simp; rfl)); simp only [Act.put, List.setIfInBounds_toArray, List.set_cons_zero, List.set_cons_succ]
    refine anyR_valG Later.pre 14 rfl (by kernel_rfl) (by kernel_rfl) (by kernel_rfl) (fun _ _ _ _ h => h) (by rfl) ?_; apply Exists.intro; refine ⟨fun v1 hv1 => ?_, ?_⟩; (· (go_simp; rfl)); simp only [Act.put, List.setIfInBounds_toArray, List.set_cons_zero, List.set_cons_succ]
    refine anyR_valG Later.pre 15 rfl (by kernel_rfl) (by kernel_rfl) (by kernel_rfl) (fun _ _ _ _ h => h) (by rfl) ?_; apply Exists.intro; refine ⟨fun v1 hv1 => ?_, ?_⟩; (· (go_simp; rfl)); simp only [Act.put, List.setIfInBounds_toArray, List.set_cons_zero, List.set_cons_succ]
    refine anyR_valG Later.pre 16 rfl (by kernel_rfl) (by kernel_rfl) (by kernel_rfl) (fun _ _ _ _ h => h) (by rfl) ?_; apply Exists.intro; refine ⟨fun v1 hv1 => ?_, ?_⟩; (· (go_simp; rfl)); simp only [Act.put, List.setIfInBounds_toArray, List.set_cons_zero, List.set_cons_succ]
    refine anyR_val Later.pre 17 rfl (by kernel_rfl) (by kernel_rfl) (by kernel_rfl) (fun _ _ _ _ h => h) rfl ?_; apply Exists.intro; refine ⟨fun v1 hv1 => ?_, ?_⟩; (· (go_simp; rfl)); simp only [Act.put, List.setIfInBounds_toArray, List.set_cons_zero, List.set_cons_succ]
    refine anyR_val Later.pre 18 rfl (by kernel_rfl) (by kernel_rfl) (by kernel_rfl) (fun _ _ _ _ h => h) rfl ?_; apply Exists.intro; refine ⟨fun v1 hv1 => ?_, ?_⟩; (· (go_simp; rfl)); simp only [Act.put, List.setIfInBounds_toArray, List.set_cons_zero, List.set_cons_succ]
    refine anyR_valG Later.pre 19 rfl (by kernel_rfl) (by kernel_rfl) (by kernel_rfl) (fun _ _ _ _ h => h) (by rfl) ?_; apply Exists.intro; refine ⟨fun v1 hv1 => ?_, ?_⟩; (· (go_simp; rfl)); simp only [Act.put, List.setIfInBounds_toArray, List.set_cons_zero, List.set_cons_succ]
    refine anyR_valG Later.pre 20 rfl (by kernel_rfl) (by kernel_rfl) (by kernel_rfl) (fun _ _ _ _ h => h) (by rfl) ?_; apply Exists.intro; refine ⟨fun v1 hv1 => ?_, ?_⟩; (· (go_simp; rfl)); simp only [Act.put, List.setIfInBounds_toArray, List.set_cons_zero, List.set_cons_succ]
    refine anyR_valG Later.pre 21 rfl (by kernel_rfl) (by kernel_rfl) (by kernel_rfl) (fun _ _ _ _ h => h) (by rfl) ?_; apply Exists.intro; refine ⟨fun v1 hv1 => ?_, ?_⟩; (· (go_simp; rfl)); simp only [Act.put, List.setIfInBounds_toArray, List.set_cons_zero, List.set_cons_succ]
    refine anyR_valG Later.pre 22 rfl (by kernel_rfl) (by kernel_rfl) (by kernel_rfl) (fun _ _ _ _ h => h) (by rfl) ?_; apply Exists.intro; refine ⟨fun v1 hv1 => ?_, ?_⟩; (· (go_simp; rfl)); simp only [Act.put, List.setIfInBounds_toArray, List.set_cons_zero, List.set_cons_succ]
    refine anyR_valG Later.pre 23 rfl (by kernel_rfl) (by kernel_rfl) (by kernel_rfl) (fun _ _ _ _ h => h) (by rfl) ?_; apply Exists.intro; refine ⟨fun v1 hv1 => ?_, ?_⟩; (· (go_simp; rfl)); simp only [Act.put, List.setIfInBounds_toArray, List.set_cons_zero, List.set_cons_succ]
    refine anyR_val Later.pre 24 rfl (by kernel_rfl) (by kernel_rfl) (by kernel_rfl) (fun _ _ _ _ h => h) rfl ?_; apply Exists.intro; refine ⟨fun v1 hv1 => ?_, ?_⟩; (· (go_simp; rfl)); simp only [Act.put, List.setIfInBounds_toArray, List.set_cons_zero, List.set_cons_succ]
    refine anyR_val Later.pre 25 rfl (by kernel_rfl) (by kernel_rfl) (by kernel_rfl) (fun _ _ _ _ h => h) rfl ?_; apply Exists.intro; refine ⟨fun v1 hv1 => ?_, ?_⟩; (· (go_simp; rfl)); simp only [Act.put, List.setIfInBounds_toArray, List.set_cons_zero, List.set_cons_succ]
    refine anyR_valG Later.pre 26 rfl (by kernel_rfl) (by kernel_rfl) (by kernel_rfl) (fun _ _ _ _ h => h) (by rfl) ?_; apply Exists.intro; refine ⟨fun v1 hv1 => ?_, ?_⟩; (· (go_simp; rfl)); simp only [Act.put, List.setIfInBounds_toArray, List.set_cons_zero, List.set_cons_succ]
    refine anyR_valG Later.pre 27 rfl (by kernel_rfl) (by kernel_rfl) (by kernel_rfl) (fun _ _ _ _ h => h) (by rfl) ?_; apply Exists.intro; refine ⟨fun v1 hv1 => ?_, ?_⟩; (· (go_simp; rfl)); simp only [Act.put, List.setIfInBounds_toArray, List.set_cons_zero, List.set_cons_succ]
    refine anyR_val Later.pre 28 rfl (by kernel_rfl) (by kernel_rfl) (by kernel_rfl) (fun _ _ _ _ h => h) rfl ?_; apply Exists.intro; refine ⟨fun v1 hv1 => ?_, ?_⟩; (· (go_simp; rfl)); simp only [Act.put, List.setIfInBounds_toArray, List.set_cons_zero, List.set_cons_succ]
    refine anyR_val Later.pre 29 rfl (by kernel_rfl) (by kernel_rfl) (by kernel_rfl) (fun _ _ _ _ h => h) rfl ?_; apply Exists.intro; refine ⟨fun v1 hv1 => ?_, ?_⟩; (· (go_simp; rfl)); simp only [Act.put, List.setIfInBounds_toArray, List.set_cons_zero, List.set_cons_succ]
    refine anyR_valG Later.pre 30 rfl (by kernel_rfl) (by kernel_rfl) (by kernel_rfl) (fun _ _ _ _ h => h) (by rfl) ?_; apply Exists.intro; refine ⟨fun v1 hv1 => ?_, ?_⟩; (· (go_simp; rfl)); simp only [Act.put, List.setIfInBounds_toArray, List.set_cons_zero, List.set_cons_succ]
    refine anyR_valG Later.pre 31 rfl (by kernel_rfl) (by kernel_rfl) (by kernel_rfl) (fun _ _ _ _ h => h) (by rfl) ?_; apply Exists.intro; refine ⟨fun v1 hv1 => ?_, ?_⟩; (· (go_simp; rfl)); simp only [Act.put, List.setIfInBounds_toArray, List.set_cons_zero, List.set_cons_succ]
    refine anyR_val Later.pre 32 rfl (by kernel_rfl) (by kernel_rfl) (by kernel_rfl) (fun _ _ _ _ h => h) rfl ?_; apply Exists.intro; refine ⟨fun v1 hv1 => ?_, ?_⟩; (· (go_simp; rfl)); simp only [Act.put, List.setIfInBounds_toArray, List.set_cons_zero, List.set_cons_succ]
    refine anyR_val Later.pre 33 rfl (by kernel_rfl) (by kernel_rfl) (by kernel_rfl) (fun _ _ _ _ h => h) rfl ?_; apply Exists.intro; refine ⟨fun v1 hv1 => ?_, ?_⟩; (· (go_simp; rfl)); simp only [Act.put, List.setIfInBounds_toArray, List.set_cons_zero, List.set_cons_succ]
    refine anyR_valG Later.pre 34 rfl (by kernel_rfl) (by kernel_rfl) (by kernel_rfl) (fun _ _ _ _ h => h) (by rfl) ?_; apply Exists.intro; refine ⟨fun v1 hv1 => ?_, ?_⟩; (· (go_simp; rfl)); simp only [Act.put, List.setIfInBounds_toArray, List.set_cons_zero, List.set_cons_succ]
    refine anyR_valG Later.pre 35 rfl (by kernel_rfl) (by kernel_rfl) (by kernel_rfl) (fun _ _ _ _ h => h) (by rfl) ?_; apply Exists.intro; refine ⟨fun v1 hv1 => ?_, ?_⟩; (· (go_simp; rfl)); simp only [Act.put, List.setIfInBounds_toArray, List.set_cons_zero, List.set_cons_succ]
    refine anyR_valG Later.pre 36 rfl (by kernel_rfl) (by kernel_rfl) (by kernel_rfl) (fun _ _ _ _ h => h) (by rfl) ?_; apply Exists.intro; refine ⟨fun v1 hv1 => ?_, ?_⟩; (· (go_simp; rfl)); simp only [Act.put, List.setIfInBounds_toArray, List.set_cons_zero, List.set_cons_succ]
    refine anyR_valG Later.pre 37 rfl (by kernel_rfl) (by kernel_rfl) (by kernel_rfl) (fun _ _ _ _ h => h) (by rfl) ?_; apply Exists.intro; refine ⟨fun v1 hv1 => ?_, ?_⟩; (· (go_simp; rfl)); simp only [Act.put, List.setIfInBounds_toArray, List.set_cons_zero, List.set_cons_succ]
    refine anyR_valG Later.pre 38 rfl (by kernel_rfl) (by kernel_rfl) (by kernel_rfl) (fun _ _ _ _ h => h) (by rfl) ?_; apply Exists.intro; refine ⟨fun v1 hv1 => ?_, ?_⟩; (· (go_simp; rfl)); simp only [Act.put, List.setIfInBounds_toArray, List.set_cons_zero, List.set_cons_succ]
    refine anyR_val Later.pre 39 rfl (by kernel_rfl) (by kernel_rfl) (by kernel_rfl) (fun _ _ _ _ h => h) rfl ?_; apply Exists.intro; refine ⟨fun v1 hv1 => ?_, ?_⟩; (· (go_simp; rfl)); simp only [Act.put, List.setIfInBounds_toArray, List.set_cons_zero, List.set_cons_succ]
    refine anyR_val Later.pre 40 rfl (by kernel_rfl) (by kernel_rfl) (by kernel_rfl) (fun _ _ _ _ h => h) rfl ?_; apply Exists.intro; refine ⟨fun v1 hv1 => ?_, ?_⟩; (· (go_simp; rfl)); simp only [Act.put, List.setIfInBounds_toArray, List.set_cons_zero, List.set_cons_succ]
    refine anyR_valG Later.pre 41 rfl (by kernel_rfl) (by kernel_rfl) (by kernel_rfl) (fun _ _ _ _ h => h) (by rfl) ?_; apply Exists.intro; refine ⟨fun v1 hv1 => ?_, ?_⟩; (· (go_simp; rfl)); simp only [Act.put, List.setIfInBounds_toArray, List.set_cons_zero, List.set_cons_succ]
    refine anyR_valG Later.pre 42 rfl (by kernel_rfl) (by kernel_rfl) (by kernel_rfl) (fun _ _ _ _ h => h) (by rfl) ?_; apply Exists.intro; refine ⟨fun v1 hv1 => ?_, ?_⟩; (· (go_simp; rfl)); simp only [Act.put, List.setIfInBounds_toArray, List.set_cons_zero, List.set_cons_succ]
    refine anyR_valG Later.pre 43 rfl (by kernel_rfl) (by kernel_rfl) (by kernel_rfl) (fun _ _ _ _ h => h) (by rfl) ?_; apply Exists.intro; refine ⟨fun v1 hv1 => ?_, ?_⟩; (· (go_simp; rfl)); simp only [Act.put, List.setIfInBounds_toArray, List.set_cons_zero, List.set_cons_succ]
    refine anyR_valG Later.pre 44 rfl (by kernel_rfl) (by kernel_rfl) (by kernel_rfl) (fun _ _ _ _ h => h) (by rfl) ?_; apply Exists.intro; refine ⟨fun v1 hv1 => ?_, ?_⟩; (· (go_simp; rfl)); simp only [Act.put, List.setIfInBounds_toArray, List.set_cons_zero, List.set_cons_succ]
    refine anyR_valG Later.pre 45 rfl (by kernel_rfl) (by kernel_rfl) (by kernel_rfl) (fun _ _ _ _ h => h) (by rfl) ?_; apply Exists.intro; refine ⟨fun v1 hv1 => ?_, ?_⟩; (· (go_simp; rfl)); simp only [Act.put, List.setIfInBounds_toArray, List.set_cons_zero, List.set_cons_succ]
    refine anyR_val Later.pre 46 rfl (by kernel_rfl) (by kernel_rfl) (by kernel_rfl) (fun _ _ _ _ h => h) rfl ?_; apply Exists.intro; refine ⟨fun v1 hv1 => ?_, ?_⟩; (· (go_simp; rfl)); simp only [Act.put, List.setIfInBounds_toArray, List.set_cons_zero, List.set_cons_succ]
    refine anyR_val Later.pre 47 rfl (by kernel_rfl) (by kernel_rfl) (by kernel_rfl) (fun _ _ _ _ h => h) rfl ?_; apply Exists.intro; refine ⟨fun v1 hv1 => ?_, ?_⟩; (· (go_simp; rfl)); simp only [Act.put, List.setIfInBounds_toArray, List.set_cons_zero, List.set_cons_succ]
    refine anyR_valG Later.pre 48 rfl (by kernel_rfl) (by kernel_rfl) (by kernel_rfl) (fun _ _ _ _ h => h) (by rfl) ?_; apply Exists.intro; refine ⟨fun v1 hv1 => ?_, ?_⟩; (· (go_simp; rfl)); simp only [Act.put, List.setIfInBounds_toArray, List.set_cons_zero, List.set_cons_succ]
    refine anyR_valG Later.pre 49 rfl (by kernel_rfl) (by kernel_rfl) (by kernel_rfl) (fun _ _ _ _ h => h) (by rfl) ?_; apply Exists.intro; refine ⟨fun v1 hv1 => ?_, ?_⟩; (· (go_simp; rfl)); simp only [Act.put, List.setIfInBounds_toArray, List.set_cons_zero, List.set_cons_succ]
    refine anyR_valG Later.pre 50 rfl (by kernel_rfl) (by kernel_rfl) (by kernel_rfl) (fun _ _ _ _ h => h) (by rfl) ?_; apply Exists.intro; refine ⟨fun v1 hv1 => ?_, ?_⟩; (· (go_simp; rfl)); simp only [Act.put, List.setIfInBounds_toArray, List.set_cons_zero, List.set_cons_succ]
    refine anyR_valG Later.pre 51 rfl (by kernel_rfl) (by kernel_rfl) (by kernel_rfl) (fun _ _ _ _ h => h) (by rfl) ?_; apply Exists.intro; refine ⟨fun v1 hv1 => ?_, ?_⟩; (· (go_simp; rfl)); simp only [Act.put, List.setIfInBounds_toArray, List.set_cons_zero, List.set_cons_succ]
    refine anyR_valG Later.pre 52 rfl (by kernel_rfl) (by kernel_rfl) (by kernel_rfl) (fun _ _ _ _ h => h) (by rfl) ?_; apply Exists.intro; refine ⟨fun v1 hv1 => ?_, ?_⟩; (· (go_simp; rfl)); simp only [Act.put, List.setIfInBounds_toArray, List.set_cons_zero, List.set_cons_succ]
    refine anyR_val Later.pre 53 rfl (by kernel_rfl) (by kernel_rfl) (by kernel_rfl) (fun _ _ _ _ h => h) rfl ?_; apply Exists.intro; refine ⟨fun v1 hv1 => ?_, ?_⟩; (· (go_simp; rfl)); simp only [Act.put, List.setIfInBounds_toArray, List.set_cons_zero, List.set_cons_succ]
    refine anyR_val Later.pre 54 rfl (by kernel_rfl) (by kernel_rfl) (by kernel_rfl) (fun _ _ _ _ h => h) rfl ?_; apply Exists.intro; refine ⟨fun v1 hv1 => ?_, ?_⟩; (· (go_simp; rfl)); simp only [Act.put, List.setIfInBounds_toArray, List.set_cons_zero, List.set_cons_succ]
    refine anyR_valG Later.pre 55 rfl (by kernel_rfl) (by kernel_rfl) (by kernel_rfl) (fun _ _ _ _ h => h) (by rfl) ?_; apply Exists.intro; refine ⟨fun v1 hv1 => ?_, ?_⟩; (· (go_simp; rfl)); simp only [Act.put, List.setIfInBounds_toArray, List.set_cons_zero, List.set_cons_succ]
    refine anyR_valG Later.pre 56 rfl (by kernel_rfl) (by kernel_rfl) (by kernel_rfl) (fun _ _ _ _ h => h) (by rfl) ?_; apply Exists.intro; refine ⟨fun v1 hv1 => ?_, ?_⟩; (· (go_simp; rfl)); simp only [Act.put, List.setIfInBounds_toArray, List.set_cons_zero, List.set_cons_succ]
    refine anyR_valG Later.pre 57 rfl (by kernel_rfl) (by kernel_rfl) (by kernel_rfl) (fun _ _ _ _ h => h) (by rfl) ?_; apply Exists.intro; refine ⟨fun v1 hv1 => ?_, ?_⟩; (· (go_simp; rfl)); simp only [Act.put, List.setIfInBounds_toArray, List.set_cons_zero, List.set_cons_succ]
    refine anyR_valG Later.pre 58 rfl (by kernel_rfl) (by kernel_rfl) (by kernel_rfl) (fun _ _ _ _ h => h) (by rfl) ?_; apply Exists.intro; refine ⟨fun v1 hv1 => ?_, ?_⟩; (· (go_simp; rfl)); simp only [Act.put, List.setIfInBounds_toArray, List.set_cons_zero, List.set_cons_succ]
    refine anyR_valG Later.pre 59 rfl (by kernel_rfl) (by kernel_rfl) (by kernel_rfl) (fun _ _ _ _ h => h) (by rfl) ?_; apply Exists.intro; refine ⟨fun v1 hv1 => ?_, ?_⟩; (· (go_simp; rfl)); simp only [Act.put, List.setIfInBounds_toArray, List.set_cons_zero, List.set_cons_succ]
    refine anyR_valG Later.pre 60 rfl (by kernel_rfl) (by kernel_rfl) (by kernel_rfl) (fun _ _ _ _ h => h) (by rfl) ?_; apply Exists.intro; refine ⟨fun v1 hv1 => ?_, ?_⟩; (· (go_simp; rfl)); simp only [Act.put, List.setIfInBounds_toArray, List.set_cons_zero, List.set_cons_succ]
    refine anyR_valG Later.pre 61 rfl (by kernel_rfl) (by kernel_rfl) (by kernel_rfl) (fun _ _ _ _ h => h) (by rfl) ?_; apply Exists.intro; refine ⟨fun v1 hv1 => ?_, ?_⟩; (· (go_simp; rfl)); simp only [Act.put, List.setIfInBounds_toArray, List.set_cons_zero, List.set_cons_succ]
    refine anyR_val Later.pre 62 rfl (by kernel_rfl) (by kernel_rfl) (by kernel_rfl) (fun _ _ _ _ h => h) rfl ?_; apply Exists.intro; refine ⟨fun v1 hv1 => ?_, ?_⟩; (· (go_simp; rfl)); simp only [Act.put, List.setIfInBounds_toArray, List.set_cons_zero, List.set_cons_succ]
    refine anyR_val Later.pre 63 rfl (by kernel_rfl) (by kernel_rfl) (by kernel_rfl) (fun _ _ _ _ h => h) rfl ?_; apply Exists.intro; refine ⟨fun v1 hv1 => ?_, ?_⟩; (· (go_simp; rfl)); simp only [Act.put, List.setIfInBounds_toArray, List.set_cons_zero, List.set_cons_succ]
    clear qL qT qQ qS qM qN
    refine anyR_done (by kernel_rfl) (fun V9 hV9 => ?_)
    go_wp2_with fail
    go_ret
    exact ⟨rfl, L8.trans (hV0.trans hV9)⟩
end Go.Proofs.YtdabhbadcbnkhaaGreatDoor
