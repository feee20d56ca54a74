/- Package pool: the numbers of a set by their test; Used, where none is taken. -/
import Derived.Test.YtfompbpllndmfaaDoorPJ
namespace Go.Proofs.YtfompbpllndmfaaDoor
open Go.RowKit Go.Shelf
set_option maxRecDepth 100000
attribute [local go_sem] Oper.semAt_some
set_option linter.unusedVariables false
set_option linter.unusedSimpArgs false

theorem filter_interval (p : Nat → Bool) (N a b : Nat) (hab : a ≤ b) (hb : b < N) (h : ∀ m, m < N → p m = decide (a ≤ m ∧ m ≤ b)) : (List.range N).filter p = nums a b := by
  obtain ⟨r, hr⟩ : ∃ r, N = a + (b - a + 1) + r := ⟨N - b - 1, by omega⟩
  have e1 : (List.range a).filter p = [] := by
    rw [List.filter_eq_nil_iff]
    intro m hm
    have : m < a := by simpa using hm
    rw [h m (by omega)]
    simp
    omega
  have e2 : ((List.range (b - a + 1)).map (fun i => a + i)).filter p = nums a b := by
    unfold nums
    rw [List.filter_eq_self]
    intro m hm
    obtain ⟨i, hi, rfl⟩ := List.mem_map.1 hm
    have : i < b - a + 1 := by simpa using hi
    rw [h _ (by omega)]
    simp
    omega
  have e3 : ((List.range r).map (fun i => a + (b - a + 1) + i)).filter p = [] := by
    rw [List.filter_eq_nil_iff]
    intro m hm
    obtain ⟨i, hi, rfl⟩ := List.mem_map.1 hm
    have : i < r := by simpa using hi
    rw [h _ (by omega)]
    simp
    omega
  rw [hr, List.range_add, List.range_add, List.filter_append, List.filter_append, e1, e2, e3]
  simp

theorem elsTo_eq (ws : Nat → Nat) : ∀ i, elsTo ws i = (List.range (64 * i)).filter (fr ws)
  | 0 => by unfold elsTo; simp
  | i + 1 => by
    rw [elsTo_succ, elsTo_eq ws i, show 64 * (i + 1) = 64 * i + 64 from by omega, List.range_add, List.filter_append]
    congr 1
    unfold wel Pm.bl
    rw [List.filter_map]
    congr 1
    refine List.filter_congr fun j hj => ?_
    have : j < 64 := by simpa using hj
    simp only [Function.comp]
    unfold fr
    rw [show (64 * i + j) / 64 = i from by omega, show (64 * i + j) % 64 = j from by omega]
theorem els_eq (ws : Nat → Nat) : els ws = (List.range 65536).filter (fr ws) := elsTo_eq ws 1024
theorem cnt_eq (ws : Nat → Nat) : ∀ i, cnt ws i = (elsTo ws i).length
  | 0 => by unfold elsTo cnt; simp
  | i + 1 => by
    rw [elsTo_succ, List.length_append, ← cnt_eq ws i]
    show cnt ws i + Pm.pcn 64 (ws i) = _
    unfold wel
    rw [List.length_map, Pm.bl_pcn]
    rfl
theorem els_interval (ws : Nat → Nat) (a b : Nat) (hab : a ≤ b) (hb : b < 65536) (h : ∀ m, m < 65536 → fr ws m = decide (a ≤ m ∧ m ≤ b)) : els ws = nums a b := by
  rw [els_eq]
  exact filter_interval (fr ws) 65536 a b hab hb h
theorem els_none (ws : Nat → Nat) (h : ∀ m, m < 65536 → fr ws m = false) : els ws = [] := by
  rw [els_eq, List.filter_eq_nil_iff]
  intro m hm
  rw [h m (by simpa using hm)]
  simp
theorem nums_length (a b : Nat) : (nums a b).length = b - a + 1 := by unfold nums; simp
theorem nums_cons (a b : Nat) (h : a ≤ b) : ∃ L, nums a b = a :: L := by
  unfold nums
  rw [List.range_succ_eq_map]
  exact ⟨_, rfl⟩

theorem PB.below {base n₀ : Nat} {A B : World} {b : Nat} {low high : Int} {ws : Nat → Nat} (h : PB base A b low high ws) (l : Below n₀ A B) (hb : b < n₀) : PB base B b low high ws := ⟨h.1, h.2.1, (l.block b hb).trans h.2.2⟩

/-- What Used keeps while it finds none. -/
def PUd (rb b : Nat) (W : World) : Prop := W.heap[rb]? = some (.cells #[.pointer (some ⟨b, 0, none⟩)] 24 (0, 0)) ∧ W.heap[rb + 1]? = some (.cells #[.slice none 0 0] 23 (0, 0))
theorem PUd.ct {rb b : Nat} {A B : World} (h : PUd rb b A) (c : CT A B) : PUd rb b B := ⟨c.2 _ _ h.1 rfl, c.2 _ _ h.2 rfl⟩

set_option maxRecDepth 100000 in
set_option maxHeartbeats 4000000 in
theorem used_none (base b low high : Nat) (ws : Nat → Nat) (hlh : low ≤ high) (hh : high < 65536) (w : World) (hT : PB base w b (low : Int) (high : Int) ws) (hall : ∀ n, low ≤ n → n ≤ high → fr ws n = true) :
    Calls Tryd.prog 12 #[.pointer (some ⟨b, 0, none⟩)] w fun e w' => e = .returned (.slice none 0 0) ∧ Later w w' := by
  have hbl := hT.lt
  have hb4 : Later w (((w.alloc (.cells #[.pointer (some ⟨b, 0, none⟩)] 24)).alloc (.cells #[.slice none 0 0] 23)).alloc (.cells #[.pointer (some ⟨b, 0, none⟩)] 24)) := (((Below.refl _ _).alloc (Nat.le_refl _) _).alloc (by simp) _).alloc (by simp <;> omega) _
  have c0 : (((w.alloc (.cells #[.pointer (some ⟨b, 0, none⟩)] 24)).alloc (.cells #[.slice none 0 0] 23)).alloc (.cells #[.pointer (some ⟨b, 0, none⟩)] 24)).heap[w.heap.size]? = some (.cells #[.pointer (some ⟨b, 0, none⟩)] 24) := (Below.heap_alloc _ _ _ (by simp <;> omega)).trans ((Below.heap_alloc _ _ _ (by simp)).trans (heap_alloc_new w _))
  have c1 : (((w.alloc (.cells #[.pointer (some ⟨b, 0, none⟩)] 24)).alloc (.cells #[.slice none 0 0] 23)).alloc (.cells #[.pointer (some ⟨b, 0, none⟩)] 24)).heap[w.heap.size + 1]? = some (.cells #[.slice none 0 0] 23) := by
    have := heap_alloc_new (w.alloc (.cells #[.pointer (some ⟨b, 0, none⟩)] 24)) (.cells #[.slice none 0 0] 23)
    rw [World.size_alloc] at this
    exact (Below.heap_alloc _ _ _ (by simp)).trans this
  have c2 : (((w.alloc (.cells #[.pointer (some ⟨b, 0, none⟩)] 24)).alloc (.cells #[.slice none 0 0] 23)).alloc (.cells #[.pointer (some ⟨b, 0, none⟩)] 24)).heap[w.heap.size + 1 + 1]? = some (.cells #[.pointer (some ⟨b, 0, none⟩)] 24) := by
    have := heap_alloc_new ((w.alloc (.cells #[.pointer (some ⟨b, 0, none⟩)] 24)).alloc (.cells #[.slice none 0 0] 23)) (.cells #[.pointer (some ⟨b, 0, none⟩)] 24)
    simpa only [World.size_alloc] using this
  have hs4 : (((w.alloc (.cells #[.pointer (some ⟨b, 0, none⟩)] 24)).alloc (.cells #[.slice none 0 0] 23)).alloc (.cells #[.pointer (some ⟨b, 0, none⟩)] 24)).heap.size = w.heap.size + 1 + 1 + 1 := by simp
  have C0 := hide c0
  have C1 := hide c1
  have C2 := hide c2
  have HS4 := hide hs4
  have HALL := hide hall
  clear c0 c1 c2 hs4 hall
  refine (callsIn_wide (n := 5)).1 ?_
  refine callsIn_of_wp_marks Tryd.func12 rfl trivial ?_ rfl
  simp only [Tryd.ntmps12, List.size_toArray, List.length_cons, List.length_nil, Nat.reduceAdd, Nat.reduceSub, Array.replicate_succ, Array.replicate_zero, List.push_toArray, List.append_toArray, List.nil_append, List.cons_append]
  gi_wp2_with (refine ⟨trivial, ?_⟩; gi_at_call 24; refine (numbers_in _ _ _).mono ?_; rintro e w' ⟨rfl, rfl⟩)
  generalize (((w.alloc (.cells #[.pointer (some ⟨b, 0, none⟩)] 24)).alloc (.cells #[.slice none 0 0] 23)).alloc (.cells #[.pointer (some ⟨b, 0, none⟩)] 24)) = w4 at *
  have hs4 : w4.heap.size = w.heap.size + 1 + 1 + 1 := HS4.out
  have hT4 := hT.later hb4
  refine wpIn_rangeX (w := w4) rfl (by omega) (gf := 35) (lb := #[.pointer (some ⟨w.heap.size + 1 + 1, 0, none⟩)]) rfl trivial (enters_of Tryd.func35 (by kernel_rfl) rfl)
    (numb_gen 4 (by omega) (w.heap.size + 1 + 1) b w.heap.size low high hlh hh w4 C2.out (by omega) hT4.low hT4.high)
    (fun h k => h.trans k) (fun W l o o' hl ho hc hw => kl_put (by omega) (by omega) (by omega) hl ho hc hw) (fun hA hL => KL.of hL (by omega)) (fun _ _ _ _ h _ => h) (fun _ _ _ _ _ _ _ _ _ h => h) (fun _ => rfl)
    (fun pre W => PUd w.heap.size b W ∧ Below w.heap.size w W) (fun pre W => False)
    (OwnFrom.and (fun s A B row hs hg hr => hs.ct (CT.row hg (fun r e => (hr r e).2))) (ownFrom_below (Nat.le_refl _) (by omega)))
    (fun s A B h l => ⟨h.1.ct (CT.of l), h.2.trans (l.mono h.2.size)⟩)
    (fun s A B row hs hg hr => hs)
    ⟨⟨C0.out, C1.out⟩, hb4⟩
    (fun x a' W => a' = { tmps := #[.pointer (some ⟨b, 0, none⟩), .pointer (some ⟨w.heap.size, 0, none⟩), .slice none 0 0, .pointer (some ⟨w.heap.size + 1, 0, none⟩), .int .u16 (x : Int), .pointer (some ⟨b, 0, none⟩), .bool false, .pointer (some ⟨b, 0, none⟩), .func (.func 35) #[] #[.pointer (some ⟨w.heap.size + 1 + 1, 0, none⟩)], .int .u16 (x : Int), undef, undef, undef, undef, undef, undef, undef, undef], defers := [] })
    (fun x a' W l o o' hl ho hc h => h) ?assign ?body ?done ?stop
  case assign =>
    rintro l pre x W K hsz _ hX hK
    dsimp only [encN]
    gi_wp2
    exact hK _ _ (Later.refl _) rfl
  case body =>
    rintro l pre x a' W ⟨⟨h0, h1⟩, hbW⟩ hX rfl
    have hxm : low ≤ x ∧ x ≤ high := by
      obtain ⟨rest, e⟩ := hX
      have : x ∈ nums low high := by rw [← e]; simp
      exact (mem_nums hlh).1 this
    have hno : hsP low high ws x = false := by unfold hsP; rw [HALL.out x hxm.1 hxm.2]; simp
    have hHP := (((callsIn_wide (n := 2)).2 (hasP_any base b low high ws x W (hT.below hbW hbl) (by omega))).inRound l)
    rw [hno] at hHP
    have HHP := hide hHP
    have K0 := block_cell h0
    have hbsz := hbW.size
    clear hHP hno hxm
    gi_wp2
    refine ⟨trivial, HHP.out.mono ?_⟩
    rintro e W1 ⟨rfl, l1⟩
    gi_wp2
    exact ⟨⟨l1.size, fun i o hi ho hc => later_keep l1 ho⟩, KL.of l1 hbsz, ⟨later_keep l1 h0, later_keep l1 h1⟩, hbW.trans (l1.mono hbsz)⟩
  case done =>
    rintro D xs W hD rfl ⟨⟨h0, h1⟩, hbW⟩ hK
    have K1 := block_cell h1
    gi_wp2
    refine ⟨by simp, .inl ⟨_, _, rfl, run_takeDeferred hK, ?_⟩⟩
    exact ⟨.slice none 0 0, by simp [results, Tryd.results12, go_sem], rfl, hbW.trans (belowK_b (w := w) (Nat.le_refl _) W D _ _ (by omega) hK rfl rfl)⟩
  case stop =>
    rintro D pre W hD hSp hF hK
    exact hF.elim
end Go.Proofs.YtfompbpllndmfaaDoor
