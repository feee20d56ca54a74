/- Package ipv4's read: what it hands back of bytes; a refusal is caught. -/
import Derived.Test.YtcjigldianobgaeVS
namespace Go.Proofs.Ytcjigldianobgae
open Go.RowKit Go.Shelf
set_option maxRecDepth 100000
set_option linter.unusedVariables false
set_option linter.unusedSimpArgs false

/-- A packet of nothing. -/
abbrev zc : List Value := [.int .u8 0, .int .u16 0, .bool false, .int .u8 0, .int .u8 0, .int .u32 0, .int .u32 0, .slice none 0 0, .slice none 0 0]

theorem catch_idle (pb eb : Nat) (w : World) :
    CallsD Try.prog 54 #[.pointer (some ⟨pb, 0, none⟩), .pointer (some ⟨eb, 0, none⟩)] .returning w fun e u' w' => e = .returned (.tuple #[]) ∧ u' = .returning ∧ w' = w := by
  refine callsD_of_wpS Try.func54 rfl fun c₀ cs hu => ?_
  apply wpS_seq
  apply wpS_region
  simp [wpOpsS, go_sem, recoverD, hu, Try.ntmps54, Exit.thenS]
  refine wpS_of_wp ?_
  go_wp2
  cases c₀
  simp_all [bodyPostS, results, Try.results54]

theorem ta_yes (c : Int) (w : World) : (Instr.typeAssert (rfs c) 20 118 true).run Try.prog w = .ok (.tuple #[.agg #[.int .i64 c], .bool true]) w := by kernel_rfl

set_option maxHeartbeats 1000000 in
theorem catch_refused (n pb eb : Nat) (c x : Int) (cur : Array Value) (w : World) (hp : w.heap[pb]? = some (.cells cur 26 (0, 0))) (hs : cur.size = 9) (he : w.heap[eb]? = some (.cells #[.int .i64 x] 30 (0, 0))) (hpe : pb ≠ eb) (hn : n ≤ pb) (hn2 : n ≤ eb) :
    CallsD Try.prog 54 #[.pointer (some ⟨pb, 0, none⟩), .pointer (some ⟨eb, 0, none⟩)] (.panicking (rfp c)) w fun e u' w' =>
      e = .returned (.tuple #[]) ∧ u' = .panicking [{ v := rfs c, recovered := true }] ∧ w'.heap[pb]? = some (.cells zc.toArray 26 (0, 0)) ∧ w'.heap[eb]? = some (.cells #[.int .i64 c] 30 (0, 0)) ∧ Below n w w' := by
  have hpl := (Array.getElem?_eq_some_iff.1 hp).1
  have hel := (Array.getElem?_eq_some_iff.1 he).1
  refine callsD_of_wpS Try.func54 rfl fun c₀ cs hu => ?_
  apply wpS_seq
  apply wpS_region
  simp [wpOpsS, go_sem, recoverD, hu, Try.ntmps54, Exit.thenS]
  simp only [Array.replicate_succ, Array.replicate_zero, List.push_toArray, List.append_toArray, List.nil_append, List.cons_append, List.setIfInBounds_toArray, List.set_cons_zero, List.set_cons_succ]
  have hta := ta_yes c
  refine wpS_of_wp ?_
  go_wp2
  have hb0 : Later w (w.alloc (.cells #[.int .i64 c] 118)) := (Below.refl _ _).alloc (Nat.le_refl _) _
  have q3 : (w.alloc (.cells #[.int .i64 c] 118)).cell? ⟨w.heap.size, 0, none⟩ = some (.int .i64 c) := cell_new w _ _ 0
  have hp0 := (hb0.block pb hpl).trans hp
  have he0 := (hb0.block eb hel).trans he
  have hwp : w.heap.size ≠ pb := by omega
  have hwe : w.heap.size ≠ eb := by omega
  have hpw : ¬ pb = w.heap.size := by omega
  have hew : ¬ eb = w.heap.size := by omega
  generalize w.alloc (.cells #[.int .i64 c] 118) = W0 at *
  have k6 : ∀ j, W0.cell? ⟨pb, j, none⟩ = cur[j]? := block_cell hp0
  have f6 : ∀ j, W0.frozen? ⟨pb, j, none⟩ = false := block_frozen hp0
  have k7 : ∀ j, W0.cell? ⟨eb, j, none⟩ = #[Value.int .i64 x][j]? := block_cell he0
  have f7 : ∀ j, W0.frozen? ⟨eb, j, none⟩ = false := block_frozen he0
  go_region
  all_goals
    generalize hV7 : ((((((((W0.setCell ⟨pb, 0, none⟩ _).setCell ⟨pb, 1, none⟩ _).setCell ⟨pb, 2, none⟩ _).setCell ⟨pb, 3, none⟩ _).setCell ⟨pb, 4, none⟩ _).setCell ⟨pb, 5, none⟩ _).setCell ⟨pb, 6, none⟩ _).setCell ⟨pb, 7, none⟩ _).setCell ⟨pb, 8, none⟩ _ = V7
    have hV8 : V7 = putRow W0 pb 0 zc := hV7.symm
    have hbp : But (fun b => b = pb) W0 V7 := by rw [hV8]; exact putRow_but (E := fun b => b = pb) (n := pb) rfl zc 0 W0 W0 (But.refl _ _)
    have hP := putRow_all zc hp0 hs
    rw [← hV8] at hP
    clear hV7 hV8
    have hE := heap_set1 ((hbp.block eb (Nat.lt_of_lt_of_le hel hb0.size) (fun e => hpe e.symm)).trans he0) 0 (.int .i64 c)
    have hP2 := (Below.heap_setCell V7 ⟨eb, 0, none⟩ (.int .i64 c) pb hpe).trans hP
    have hB2 : Below n w ((V7.setCell ⟨eb, 0, none⟩ (.int .i64 c)).drew) := (((hb0.mono (by omega)).trans (hbp.below (Nat.le_trans (Nat.le_trans hn (Nat.le_of_lt hpl)) hb0.size) (fun k h e => by omega))).setCell (p := ⟨eb, 0, none⟩) hn2 _).drew
    refine ⟨rfl, _, rfl, .tuple #[], by simp [results, Try.results54], rfl, rfl, hP2, hE, hB2⟩

abbrev dfr (pb : Nat) : List Deferred := [{ target := .fn (.func 54) #[.pointer (some ⟨pb, 0, none⟩), .pointer (some ⟨pb + 1, 0, none⟩)], args := #[] }]

theorem res_read (tm : Array Value) (pb : Nat) (c : Int) (v0 v1 v2 v3 v4 v5 v6 v7 v8 : Value) (w : World) (h4 : tm[4]? = some (.pointer (some ⟨pb, 0, none⟩))) (h5 : tm[5]? = some (.pointer (some ⟨pb + 1, 0, none⟩)))
    (hp : w.heap[pb]? = some (.cells #[v0, v1, v2, v3, v4, v5, v6, v7, v8] 26 (0, 0))) (he : w.heap[pb + 1]? = some (.cells #[.int .i64 c] 30 (0, 0))) :
    (results Try.f26 tm).run Try.prog w = .ok (.tuple #[.agg #[v0, v1, v2, v3, v4, v5, v6, v7, v8], .int .i64 c]) w := by
  have kP := block_cell hp
  have kE := block_cell he
  simp [results, Try.results26, go_sem, h4, h5, kP, kE]

theorem door_refused {R : Ending → World → Prop} (tm : Array Value) (n pb : Nat) (c x : Int) (cur : Array Value) (w : World) (hp : w.heap[pb]? = some (.cells cur 26 (0, 0))) (hs : cur.size = 9) (he : w.heap[pb + 1]? = some (.cells #[.int .i64 x] 30 (0, 0))) (hn : n ≤ pb)
    (h4 : tm[4]? = some (.pointer (some ⟨pb, 0, none⟩))) (h5 : tm[5]? = some (.pointer (some ⟨pb + 1, 0, none⟩)))
    (hR : ∀ w', Below n w w' → R (.returned (.tuple #[.agg zc.toArray, .int .i64 c])) w') :
    bodyPostD Try.prog Try.f26 R (.panic (rfp c)) { tmps := tm, defers := dfr pb } w := by
  refine leaves_cons (f := 54) (args := #[.pointer (some ⟨pb, 0, none⟩), .pointer (some ⟨pb + 1, 0, none⟩)]) (by simp) (by simp [go_sem]) ?_
  refine (catch_refused n pb (pb + 1) c x cur w hp hs he (by omega) hn (by omega)).mono ?_
  rintro e u' w'' ⟨rfl, rfl, hP, hE, hb⟩
  exact ⟨_, res_read tm pb c _ _ _ _ _ _ _ _ _ w'' h4 h5 hP hE, hR w'' hb⟩

theorem door_idle {R : Ending → World → Prop} (tm : Array Value) (pb : Nat) (c : Int) (v0 v1 v2 v3 v4 v5 v6 v7 v8 : Value) (w : World)
    (hp : w.heap[pb]? = some (.cells #[v0, v1, v2, v3, v4, v5, v6, v7, v8] 26 (0, 0))) (he : w.heap[pb + 1]? = some (.cells #[.int .i64 c] 30 (0, 0)))
    (h4 : tm[4]? = some (.pointer (some ⟨pb, 0, none⟩))) (h5 : tm[5]? = some (.pointer (some ⟨pb + 1, 0, none⟩)))
    (hR : R (.returned (.tuple #[.agg #[v0, v1, v2, v3, v4, v5, v6, v7, v8], .int .i64 c])) w) :
    bodyPostD Try.prog Try.f26 R .ret { tmps := tm, defers := dfr pb } w := by
  refine leaves_cons (f := 54) (args := #[.pointer (some ⟨pb, 0, none⟩), .pointer (some ⟨pb + 1, 0, none⟩)]) (by simp) (by simp [go_sem]) ?_
  refine (catch_idle pb (pb + 1) w).mono ?_
  rintro e u' w'' ⟨rfl, rfl, rfl⟩
  exact ⟨_, res_read tm pb c _ _ _ _ _ _ _ _ _ w'' h4 h5 hp he, hR⟩

/-- How many bytes in all; what is wrong. -/
def ral (q : Bool) (zs : List Int) : Int := if q then min (wat zs 2) zs.length else wat zs 2
def rde (q : Bool) (zs : List Int) : Int :=
  if msr zs ≠ 0 then msr zs else if (zs.length : Int) < ral q zs then 3 else if chk zs ≠ 0 then chk zs else if q = true ∧ ral q zs - hl4 zs < 8 then 3 else 0

set_option maxHeartbeats 4000000 in
theorem read_any (q : Bool) (sv : Value) (zs : List Int) (w : World) (hB : Mt.By zs) (hl : zs.length ≤ 225000000000000) (hI : Rd w.heap.size w sv zs) :
    Calls Try.prog 26 #[sv, .bool q] w fun e w' => Below w.heap.size w w' ∧
      ((rde q zs ≠ 0 ∧ e = .returned (.tuple #[.agg zc.toArray, .int .i64 (rde q zs)])) ∨
       (rde q zs = 0 ∧ ∃ so sd, e = .returned (.tuple #[pkt zs so sd, .int .i64 0]) ∧ Ow w.heap.size w' so ((zs.take (hl4 zs).toNat).drop 20) ∧ Ow w.heap.size w' sd ((zs.take (ral q zs).toNat).drop (hl4 zs).toNat))) := by
  have hmf : ∀ (fn : Fn) (first cap : Array Value) (w : World), (Instr.makeFunc fn first cap).run Try.prog w = .ok (.func fn first cap) w := fun _ _ _ _ => rfl
  obtain ⟨a, cap, rfl, hl1, hm1⟩ := hI.slice
  have HM : Hid (rde q zs = if msr zs ≠ 0 then msr zs else if (zs.length : Int) < ral q zs then 3 else if chk zs ≠ 0 then chk zs else if q = true ∧ ral q zs - hl4 zs < 8 then 3 else 0) := rfl
  generalize rde q zs = m at *
  go_enter_defers Try.func26, Try.ntmps26
  go_wp2_with fail
  have a1 := heap_alloc_new w (.cells zc.toArray 26)
  have s1 : (w.alloc (.cells zc.toArray 26)).heap.size = w.heap.size + 1 := by simp
  have hb1 : Below w.heap.size w (w.alloc (.cells zc.toArray 26)) := (Below.refl _ _).alloc (Nat.le_refl _) _
  generalize w.alloc (.cells zc.toArray 26) = W1 at *
  have a2 := heap_alloc_new W1 (.cells #[.int .i64 0] 30)
  rw [s1] at a2
  have l2 : Later W1 (W1.alloc (.cells #[.int .i64 0] 30)) := (Below.refl _ _).alloc (Nat.le_refl _) _
  have a3 := (l2.block _ (by omega)).trans a1
  have s2 : (W1.alloc (.cells #[.int .i64 0] 30)).heap.size = w.heap.size + 1 + 1 := by simp [s1]
  generalize W1.alloc (.cells #[.int .i64 0] 30) = W2 at *
  have a4 := heap_alloc_new W2 (.cells #[.int .i64 0, .int .i64 0, .slice a zs.length cap] 120)
  rw [s2] at a4
  have l3 : Later W2 (W2.alloc (.cells #[.int .i64 0, .int .i64 0, .slice a zs.length cap] 120)) := (Below.refl _ _).alloc (Nat.le_refl _) _
  have a5 := (l3.block _ (by omega)).trans a2
  have a6 := (l3.block _ (by omega)).trans a3
  have s3 : (W2.alloc (.cells #[.int .i64 0, .int .i64 0, .slice a zs.length cap] 120)).heap.size = w.heap.size + 1 + 1 + 1 := by simp [s2]
  generalize W2.alloc (.cells #[.int .i64 0, .int .i64 0, .slice a zs.length cap] 120) = W3 at *
  have hb3 := (hb1.trans (l2.mono (by omega))).trans (l3.mono (by omega))
  clear a1 a2 a3 l2 l3 hb1 s1 s2
  refine (measure_any w.heap.size (w.heap.size + 1 + 1) 0 0 _ zs W3 hB hl (hI.below hb3) (by omega) (block_cell a4 0) (block_cell a4 1) (block_cell a4 2) (block_frozen a4 0) (block_frozen a4 1)).mono ?_
  rintro e w4 ⟨hb4, ⟨h1, rfl⟩ | ⟨h1, rfl, k0, k1, k2, f1⟩⟩
  · have := HM.out
    rw [if_pos h1] at this
    subst this
    exact door_refused _ w.heap.size w.heap.size _ 0 _ w4 ((hb4.block _ (by omega)).trans a6) rfl ((hb4.block _ (by omega)).trans a5) (Nat.le_refl _) rfl rfl (fun w' hb' => ⟨(hb3.trans (hb4.mono (by omega))).trans hb', .inl ⟨h1, rfl⟩⟩)
  have hfit : 20 ≤ hl4 zs ∧ hl4 zs ≤ zs.length ∧ hl4 zs ≤ wat zs 2 ∧ 20 ≤ zs.length := by
    unfold msr at h1
    split at h1
    · omega
    · split at h1
      · omega
      · split at h1
        · omega
        · split at h1
          · omega
          · split at h1 <;> omega
  have hn2 := wat_bd hB 2
  cases q
  · go_wp2_with fail
    by_cases h2 : (zs.length : Int) < wat zs 2
    · rw [show decide ((zs.length : Int) < wat zs 2) = true from by simpa using h2]
      refine (refuse_yes 3 _).mono ?_
      rintro e w' ⟨rfl, rfl⟩
      have := HM.out
      rw [if_neg (by simp [h1]), if_pos (by simpa [ral] using h2)] at this
      subst this
      exact door_refused _ w.heap.size w.heap.size _ 0 _ w4 ((hb4.block _ (by omega)).trans a6) rfl ((hb4.block _ (by omega)).trans a5) (Nat.le_refl _) rfl rfl (fun w' hb' => ⟨(hb3.trans (hb4.mono (by omega))).trans hb', .inl ⟨by omega, rfl⟩⟩)
    rw [show decide ((zs.length : Int) < wat zs 2) = false from by simpa using h2]
    refine (refuse_no 3 _).mono ?_
    rintro e w' ⟨rfl, rfl⟩
    have hb5 := hb4
    have K0 := k0
    have K1 := k1
    have K2 := k2
    clear hb4 k0 k1 k2
    have hz5 := hb5.size
    go_wp2_with fail
    refine (check_any (w.heap.size + 1 + 1) _ zs w4 hB hl ((hI.below (hb3.trans (hb5.mono (by omega)))).mono (by omega)) hfit.1 hfit.2.1 K0 K2).mono ?_
    rintro e w6 ⟨l6, ⟨h3, rfl⟩ | ⟨h3, rfl⟩⟩
    · have := HM.out
      rw [if_neg (by simp [h1]), if_neg (by simp [ral]; omega), if_pos h3] at this
      subst this
      exact door_refused _ w.heap.size w.heap.size _ 0 _ w6 ((l6.block _ (by omega)).trans ((hb5.block _ (by omega)).trans a6)) rfl ((l6.block _ (by omega)).trans ((hb5.block _ (by omega)).trans a5)) (Nat.le_refl _) rfl rfl (fun w' hb' => ⟨((hb3.trans (hb5.mono (by omega))).trans (l6.mono (by omega))).trans hb', .inl ⟨h3, rfl⟩⟩)
    obtain ⟨k, hk⟩ := Int.eq_ofNat_of_zero_le (show 0 ≤ hl4 zs by omega)
    obtain ⟨n, hn⟩ := Int.eq_ofNat_of_zero_le (show 0 ≤ wat zs 2 by omega)
    rw [hk] at K0
    rw [hn] at K1
    have c6 := l6.cell K0
    have d6 := l6.cell K1
    have e6 := l6.cell K2
    have p6 := (l6.block _ (by omega)).trans ((hb5.block _ (by omega)).trans a6)
    have q6 := (l6.block _ (by omega)).trans ((hb5.block _ (by omega)).trans a5)
    have hb6 := hb5.trans (l6.mono (by omega))
    have HK := hide hk
    have HN := hide hn
    have hkn : 20 ≤ k ∧ k ≤ n ∧ n ≤ zs.length ∧ n ≤ 65535 := by omega
    clear hk hn
    go_wp2_with fail
    refine (packet_any (w.heap.size + 1 + 1) _ zs k n w6 hB hl ((hI.below (hb3.trans (hb6.mono (by omega)))).mono (Nat.le_trans hb3.size hb6.size)) hkn.1 hkn.2.1 hkn.2.2.1 hkn.2.2.2 c6 d6 e6).mono ?_
    rintro e w7 ⟨so, sd, rfl, hOo, hOd, l7⟩
    have p7 := (l7.block _ (Array.getElem?_eq_some_iff.1 p6).1).trans p6
    have q7 := (l7.block _ (Array.getElem?_eq_some_iff.1 q6).1).trans q6
    have hb7 := hb6.trans (l7.mono (Nat.le_trans (by omega) hb6.size))
    obtain ⟨aso, cso, rfl, _, _⟩ := hOo.slice
    obtain ⟨asd, csd, rfl, _, _⟩ := hOd.slice
    have hlo : ((zs.take k).drop 20).length = min k zs.length - 20 := by simp
    have hld : ((zs.take n).drop k).length = n - k := by simp; omega
    rw [hlo] at hOo ⊢
    rw [hld] at hOd ⊢
    clear hlo hld
    have P7 := block_cell p7
    have F7 := block_frozen p7
    unfold pkt
    go_wp2_with fail
    clear P7 F7
    generalize hV8 : ((((((((w7.setCell ⟨w.heap.size, 0, none⟩ _).setCell ⟨w.heap.size, 1, none⟩ _).setCell ⟨w.heap.size, 2, none⟩ _).setCell ⟨w.heap.size, 3, none⟩ _).setCell ⟨w.heap.size, 4, none⟩ _).setCell ⟨w.heap.size, 5, none⟩ _).setCell ⟨w.heap.size, 6, none⟩ _).setCell ⟨w.heap.size, 7, none⟩ _).setCell ⟨w.heap.size, 8, none⟩ _ = V8
    have hV9 : V8 = putRow w7 w.heap.size 0 [.int .u8 (zs[1]?.getD 0), .int .u16 (wat zs 4), .bool (decide (16384 ≤ wat zs 6 % 32768)), .int .u8 (zs[8]?.getD 0), .int .u8 (zs[9]?.getD 0), .int .u32 (wat4 zs 12), .int .u32 (wat4 zs 16), .slice aso (min k zs.length - 20) cso, .slice asd (n - k) csd] := hV8.symm
    have hb8 : But (fun b => b = w.heap.size) w7 V8 := by rw [hV9]; exact putRow_but (E := fun b => b = w.heap.size) (n := w.heap.size) rfl _ _ _ _ (But.refl _ _)
    have p8 := putRow_all [.int .u8 (zs[1]?.getD 0), .int .u16 (wat zs 4), .bool (decide (16384 ≤ wat zs 6 % 32768)), .int .u8 (zs[8]?.getD 0), .int .u8 (zs[9]?.getD 0), .int .u32 (wat4 zs 12), .int .u32 (wat4 zs 16), .slice aso (min k zs.length - 20) cso, .slice asd (n - k) csd] p7 rfl
    rw [← hV9] at p8
    clear hV8 hV9
    have q8 := (hb8.block _ (Array.getElem?_eq_some_iff.1 q7).1 (by omega)).trans q7
    have P8 := block_cell p8
    have F8 := block_frozen p8
    have E8 := block_cell q8
    have G8 := block_frozen q8
    have hs7 : w.heap.size ≤ w7.heap.size := Nat.le_trans hb3.size hb7.size
    have hbW8 := (hb3.trans (hb7.mono (by omega))).trans (hb8.below hs7 (fun j h e => by omega))
    have hOo8 := hOo.but hb8 (fun b h e => by have := hb6.size; omega)
    have hOd8 := hOd.but hb8 (fun b h e => by have := hb6.size; omega)
    refine (refuse_no 3 _).mono ?_
    rintro e w' ⟨rfl, rfl⟩
    go_wp2_with fail
    generalize hV9 : ((((((((V8.setCell ⟨w.heap.size, 0, none⟩ _).setCell ⟨w.heap.size, 1, none⟩ _).setCell ⟨w.heap.size, 2, none⟩ _).setCell ⟨w.heap.size, 3, none⟩ _).setCell ⟨w.heap.size, 4, none⟩ _).setCell ⟨w.heap.size, 5, none⟩ _).setCell ⟨w.heap.size, 6, none⟩ _).setCell ⟨w.heap.size, 7, none⟩ _).setCell ⟨w.heap.size, 8, none⟩ _ = V9
    have hV10 : V9 = putRow V8 w.heap.size 0 [.int .u8 (zs[1]?.getD 0), .int .u16 (wat zs 4), .bool (decide (16384 ≤ wat zs 6 % 32768)), .int .u8 (zs[8]?.getD 0), .int .u8 (zs[9]?.getD 0), .int .u32 (wat4 zs 12), .int .u32 (wat4 zs 16), .slice aso (min k zs.length - 20) cso, .slice asd (n - k) csd] := hV9.symm
    have hb9 : But (fun b => b = w.heap.size) V8 V9 := by rw [hV10]; exact putRow_but (E := fun b => b = w.heap.size) (n := w.heap.size) rfl _ _ _ _ (But.refl _ _)
    have p9 := putRow_all [.int .u8 (zs[1]?.getD 0), .int .u16 (wat zs 4), .bool (decide (16384 ≤ wat zs 6 % 32768)), .int .u8 (zs[8]?.getD 0), .int .u8 (zs[9]?.getD 0), .int .u32 (wat4 zs 12), .int .u32 (wat4 zs 16), .slice aso (min k zs.length - 20) cso, .slice asd (n - k) csd] p8 rfl
    rw [← hV10] at p9
    clear hV9 hV10
    have q9 := (hb9.block _ (Array.getElem?_eq_some_iff.1 q8).1 (by omega)).trans q8
    have q10 := heap_set1 q9 0 (.int .i64 0)
    have p10 := (Below.heap_setCell V9 ⟨w.heap.size + 1, 0, none⟩ (.int .i64 0) w.heap.size (by simp)).trans p9
    have hs8 : w.heap.size ≤ V8.heap.size := Nat.le_trans hs7 hb8.size
    have hb10 : Below w.heap.size w (V9.setCell ⟨w.heap.size + 1, 0, none⟩ (.int .i64 0)) := (hbW8.trans (hb9.below hs8 (fun j h e => by omega))).setCell (p := ⟨w.heap.size + 1, 0, none⟩) (Nat.le_succ _) _
    have hbb : But (fun b => b = w.heap.size ∨ b = w.heap.size + 1) V8 (V9.setCell ⟨w.heap.size + 1, 0, none⟩ (.int .i64 0)) := But.setCell (⟨hb9.os, hb9.tape, hb9.output, hb9.size, fun j hj he => hb9.block j hj (fun e => he (.inl e))⟩) (.inr rfl) _
    have := HM.out
    rw [if_neg (by simp [h1]), if_neg (by simp [ral]; omega), if_neg (by simp [h3]), if_neg (by simp)] at this
    refine door_idle _ w.heap.size 0 _ _ _ _ _ _ _ _ _ _ p10 q10 rfl rfl ⟨hb10, .inr ⟨this, _, _, rfl, ?_, ?_⟩⟩
    · rw [HK.out]
      exact (hOo8.but hbb (fun b h e => by have := hb6.size; omega)).mono (Nat.le_trans hb3.size hb6.size)
    · rw [HK.out, show ral false zs = (n : Int) from by simp [ral]; exact HN.out]
      exact (hOd8.but hbb (fun b h e => by have := hb6.size; omega)).mono (Nat.le_trans hb3.size hb6.size)
  · by_cases hmn : (zs.length : Int) < wat zs 2
    · go_wp2_with fail
      have hb5 : Below (w.heap.size + 1 + 1) W3 (w4.setCell ⟨w.heap.size + 1 + 1, 1, none⟩ (.int .i64 (zs.length : Int))) := hb4.setCell (p := ⟨w.heap.size + 1 + 1, 1, none⟩) (Nat.le_refl _) _
      have K0 : (w4.setCell ⟨w.heap.size + 1 + 1, 1, none⟩ (.int .i64 (zs.length : Int))).cell? ⟨w.heap.size + 1 + 1, 0, none⟩ = some (.int .i64 (hl4 zs)) := (World.cell?_setCell_other _ _ _ _ (by simp)).trans k0
      have K1 : (w4.setCell ⟨w.heap.size + 1 + 1, 1, none⟩ (.int .i64 (zs.length : Int))).cell? ⟨w.heap.size + 1 + 1, 1, none⟩ = some (.int .i64 (zs.length : Int)) := World.cell?_setCell_same _ _ _ k1
      have K2 : (w4.setCell ⟨w.heap.size + 1 + 1, 1, none⟩ (.int .i64 (zs.length : Int))).cell? ⟨w.heap.size + 1 + 1, 2, none⟩ = some (.slice a zs.length cap) := (World.cell?_setCell_other _ _ _ _ (by simp)).trans k2
      generalize w4.setCell ⟨w.heap.size + 1 + 1, 1, none⟩ (.int .i64 (zs.length : Int)) = W5 at *
      clear hb4 k0 k1 k2
      refine (refuse_no 3 _).mono ?_
      rintro e w' ⟨rfl, rfl⟩
      have hz5 := hb5.size
      go_wp2_with fail
      refine (check_any (w.heap.size + 1 + 1) _ zs W5 hB hl ((hI.below (hb3.trans (hb5.mono (by omega)))).mono (by omega)) hfit.1 hfit.2.1 K0 K2).mono ?_
      rintro e w6 ⟨l6, ⟨h3, rfl⟩ | ⟨h3, rfl⟩⟩
      · have := HM.out
        rw [if_neg (by simp [h1]), if_neg (by simp [ral]; omega), if_pos h3] at this
        subst this
        exact door_refused _ w.heap.size w.heap.size _ 0 _ w6 ((l6.block _ (by omega)).trans ((hb5.block _ (by omega)).trans a6)) rfl ((l6.block _ (by omega)).trans ((hb5.block _ (by omega)).trans a5)) (Nat.le_refl _) rfl rfl (fun w' hb' => ⟨((hb3.trans (hb5.mono (by omega))).trans (l6.mono (by omega))).trans hb', .inl ⟨h3, rfl⟩⟩)
      obtain ⟨k, hk⟩ := Int.eq_ofNat_of_zero_le (show 0 ≤ hl4 zs by omega)
      obtain ⟨n, hn⟩ := Int.eq_ofNat_of_zero_le (show 0 ≤ (zs.length : Int) by omega)
      rw [hk] at K0
      rw [hn] at K1
      have c6 := l6.cell K0
      have d6 := l6.cell K1
      have e6 := l6.cell K2
      have p6 := (l6.block _ (by omega)).trans ((hb5.block _ (by omega)).trans a6)
      have q6 := (l6.block _ (by omega)).trans ((hb5.block _ (by omega)).trans a5)
      have hb6 := hb5.trans (l6.mono (by omega))
      have HK := hide hk
      have HN := hide hn
      have hkn : 20 ≤ k ∧ k ≤ n ∧ n ≤ zs.length ∧ n ≤ 65535 := by omega
      clear hk hn
      go_wp2_with fail
      refine (packet_any (w.heap.size + 1 + 1) _ zs k n w6 hB hl ((hI.below (hb3.trans (hb6.mono (by omega)))).mono (Nat.le_trans hb3.size hb6.size)) hkn.1 hkn.2.1 hkn.2.2.1 hkn.2.2.2 c6 d6 e6).mono ?_
      rintro e w7 ⟨so, sd, rfl, hOo, hOd, l7⟩
      have p7 := (l7.block _ (Array.getElem?_eq_some_iff.1 p6).1).trans p6
      have q7 := (l7.block _ (Array.getElem?_eq_some_iff.1 q6).1).trans q6
      have hb7 := hb6.trans (l7.mono (Nat.le_trans (by omega) hb6.size))
      obtain ⟨aso, cso, rfl, _, _⟩ := hOo.slice
      obtain ⟨asd, csd, rfl, _, _⟩ := hOd.slice
      have hlo : ((zs.take k).drop 20).length = min k zs.length - 20 := by simp
      have hld : ((zs.take n).drop k).length = n - k := by simp; omega
      rw [hlo] at hOo ⊢
      rw [hld] at hOd ⊢
      clear hlo hld
      have P7 := block_cell p7
      have F7 := block_frozen p7
      unfold pkt
      go_wp2_with fail
      clear P7 F7
      generalize hV8 : ((((((((w7.setCell ⟨w.heap.size, 0, none⟩ _).setCell ⟨w.heap.size, 1, none⟩ _).setCell ⟨w.heap.size, 2, none⟩ _).setCell ⟨w.heap.size, 3, none⟩ _).setCell ⟨w.heap.size, 4, none⟩ _).setCell ⟨w.heap.size, 5, none⟩ _).setCell ⟨w.heap.size, 6, none⟩ _).setCell ⟨w.heap.size, 7, none⟩ _).setCell ⟨w.heap.size, 8, none⟩ _ = V8
      have hV9 : V8 = putRow w7 w.heap.size 0 [.int .u8 (zs[1]?.getD 0), .int .u16 (wat zs 4), .bool (decide (16384 ≤ wat zs 6 % 32768)), .int .u8 (zs[8]?.getD 0), .int .u8 (zs[9]?.getD 0), .int .u32 (wat4 zs 12), .int .u32 (wat4 zs 16), .slice aso (min k zs.length - 20) cso, .slice asd (n - k) csd] := hV8.symm
      have hb8 : But (fun b => b = w.heap.size) w7 V8 := by rw [hV9]; exact putRow_but (E := fun b => b = w.heap.size) (n := w.heap.size) rfl _ _ _ _ (But.refl _ _)
      have p8 := putRow_all [.int .u8 (zs[1]?.getD 0), .int .u16 (wat zs 4), .bool (decide (16384 ≤ wat zs 6 % 32768)), .int .u8 (zs[8]?.getD 0), .int .u8 (zs[9]?.getD 0), .int .u32 (wat4 zs 12), .int .u32 (wat4 zs 16), .slice aso (min k zs.length - 20) cso, .slice asd (n - k) csd] p7 rfl
      rw [← hV9] at p8
      clear hV8 hV9
      have q8 := (hb8.block _ (Array.getElem?_eq_some_iff.1 q7).1 (by omega)).trans q7
      have P8 := block_cell p8
      have F8 := block_frozen p8
      have E8 := block_cell q8
      have G8 := block_frozen q8
      have hs7 : w.heap.size ≤ w7.heap.size := Nat.le_trans hb3.size hb7.size
      have hbW8 := (hb3.trans (hb7.mono (by omega))).trans (hb8.below hs7 (fun j h e => by omega))
      have hOo8 := hOo.but hb8 (fun b h e => by have := hb6.size; omega)
      have hOd8 := hOd.but hb8 (fun b h e => by have := hb6.size; omega)
      have hw8 : Later w7 w7 := Later.refl _
      by_cases h4 : n - k < 8
      · rw [show decide (((n - k : Nat) : Int) < 8) = true from by simp; omega]
        refine (refuse_yes 3 _).mono ?_
        rintro e w' ⟨rfl, rfl⟩
        have := HM.out
        rw [if_neg (by simp [h1]), if_neg (by simp [ral]; omega), if_neg (by simp [h3]), if_pos ⟨by simp, by have h5 := HK.out; have h6 := HN.out; simp [ral]; omega⟩] at this
        subst this
        exact door_refused _ w.heap.size w.heap.size _ 0 _ V8 p8 rfl q8 (Nat.le_refl _) rfl rfl (fun w' hb' => ⟨hbW8.trans hb', .inl ⟨by omega, rfl⟩⟩)
      rw [show decide (((n - k : Nat) : Int) < 8) = false from by simp; omega]
      refine (refuse_no 3 _).mono ?_
      rintro e w' ⟨rfl, rfl⟩
      go_wp2_with fail
      generalize hV9 : ((((((((V8.setCell ⟨w.heap.size, 0, none⟩ _).setCell ⟨w.heap.size, 1, none⟩ _).setCell ⟨w.heap.size, 2, none⟩ _).setCell ⟨w.heap.size, 3, none⟩ _).setCell ⟨w.heap.size, 4, none⟩ _).setCell ⟨w.heap.size, 5, none⟩ _).setCell ⟨w.heap.size, 6, none⟩ _).setCell ⟨w.heap.size, 7, none⟩ _).setCell ⟨w.heap.size, 8, none⟩ _ = V9
      have hV10 : V9 = putRow V8 w.heap.size 0 [.int .u8 (zs[1]?.getD 0), .int .u16 (wat zs 4), .bool (decide (16384 ≤ wat zs 6 % 32768)), .int .u8 (zs[8]?.getD 0), .int .u8 (zs[9]?.getD 0), .int .u32 (wat4 zs 12), .int .u32 (wat4 zs 16), .slice aso (min k zs.length - 20) cso, .slice asd (n - k) csd] := hV9.symm
      have hb9 : But (fun b => b = w.heap.size) V8 V9 := by rw [hV10]; exact putRow_but (E := fun b => b = w.heap.size) (n := w.heap.size) rfl _ _ _ _ (But.refl _ _)
      have p9 := putRow_all [.int .u8 (zs[1]?.getD 0), .int .u16 (wat zs 4), .bool (decide (16384 ≤ wat zs 6 % 32768)), .int .u8 (zs[8]?.getD 0), .int .u8 (zs[9]?.getD 0), .int .u32 (wat4 zs 12), .int .u32 (wat4 zs 16), .slice aso (min k zs.length - 20) cso, .slice asd (n - k) csd] p8 rfl
      rw [← hV10] at p9
      clear hV9 hV10
      have q9 := (hb9.block _ (Array.getElem?_eq_some_iff.1 q8).1 (by omega)).trans q8
      have q10 := heap_set1 q9 0 (.int .i64 0)
      have p10 := (Below.heap_setCell V9 ⟨w.heap.size + 1, 0, none⟩ (.int .i64 0) w.heap.size (by simp)).trans p9
      have hs8 : w.heap.size ≤ V8.heap.size := Nat.le_trans hs7 hb8.size
      have hb10 : Below w.heap.size w (V9.setCell ⟨w.heap.size + 1, 0, none⟩ (.int .i64 0)) := (hbW8.trans (hb9.below hs8 (fun j h e => by omega))).setCell (p := ⟨w.heap.size + 1, 0, none⟩) (Nat.le_succ _) _
      have hbb : But (fun b => b = w.heap.size ∨ b = w.heap.size + 1) V8 (V9.setCell ⟨w.heap.size + 1, 0, none⟩ (.int .i64 0)) := But.setCell (⟨hb9.os, hb9.tape, hb9.output, hb9.size, fun j hj he => hb9.block j hj (fun e => he (.inl e))⟩) (.inr rfl) _
      have := HM.out
      rw [if_neg (by simp [h1]), if_neg (by simp [ral]; omega), if_neg (by simp [h3]), if_neg (by have h5 := HK.out; have h6 := HN.out; simp [ral]; omega)] at this
      refine door_idle _ w.heap.size 0 _ _ _ _ _ _ _ _ _ _ p10 q10 rfl rfl ⟨hb10, .inr ⟨this, _, _, rfl, ?_, ?_⟩⟩
      · rw [HK.out]
        exact (hOo8.but hbb (fun b h e => by have := hb6.size; omega)).mono (Nat.le_trans hb3.size hb6.size)
      · rw [HK.out, show ral true zs = (n : Int) from by simp [ral]; have h6 := HN.out; omega]
        exact (hOd8.but hbb (fun b h e => by have := hb6.size; omega)).mono (Nat.le_trans hb3.size hb6.size)
    · go_wp2_with fail
      rw [show decide ((zs.length : Int) < wat zs 2) = false from by simpa using hmn]
      have hb5 : Below (w.heap.size + 1 + 1) W3 (w4.setCell ⟨w.heap.size + 1 + 1, 1, none⟩ (.int .i64 (wat zs 2))) := hb4.setCell (p := ⟨w.heap.size + 1 + 1, 1, none⟩) (Nat.le_refl _) _
      have K0 : (w4.setCell ⟨w.heap.size + 1 + 1, 1, none⟩ (.int .i64 (wat zs 2))).cell? ⟨w.heap.size + 1 + 1, 0, none⟩ = some (.int .i64 (hl4 zs)) := (World.cell?_setCell_other _ _ _ _ (by simp)).trans k0
      have K1 : (w4.setCell ⟨w.heap.size + 1 + 1, 1, none⟩ (.int .i64 (wat zs 2))).cell? ⟨w.heap.size + 1 + 1, 1, none⟩ = some (.int .i64 (wat zs 2)) := World.cell?_setCell_same _ _ _ k1
      have K2 : (w4.setCell ⟨w.heap.size + 1 + 1, 1, none⟩ (.int .i64 (wat zs 2))).cell? ⟨w.heap.size + 1 + 1, 2, none⟩ = some (.slice a zs.length cap) := (World.cell?_setCell_other _ _ _ _ (by simp)).trans k2
      generalize w4.setCell ⟨w.heap.size + 1 + 1, 1, none⟩ (.int .i64 (wat zs 2)) = W5 at *
      clear hb4 k0 k1 k2
      refine (refuse_no 3 _).mono ?_
      rintro e w' ⟨rfl, rfl⟩
      have hz5 := hb5.size
      go_wp2_with fail
      refine (check_any (w.heap.size + 1 + 1) _ zs W5 hB hl ((hI.below (hb3.trans (hb5.mono (by omega)))).mono (by omega)) hfit.1 hfit.2.1 K0 K2).mono ?_
      rintro e w6 ⟨l6, ⟨h3, rfl⟩ | ⟨h3, rfl⟩⟩
      · have := HM.out
        rw [if_neg (by simp [h1]), if_neg (by simp [ral]; omega), if_pos h3] at this
        subst this
        exact door_refused _ w.heap.size w.heap.size _ 0 _ w6 ((l6.block _ (by omega)).trans ((hb5.block _ (by omega)).trans a6)) rfl ((l6.block _ (by omega)).trans ((hb5.block _ (by omega)).trans a5)) (Nat.le_refl _) rfl rfl (fun w' hb' => ⟨((hb3.trans (hb5.mono (by omega))).trans (l6.mono (by omega))).trans hb', .inl ⟨h3, rfl⟩⟩)
      obtain ⟨k, hk⟩ := Int.eq_ofNat_of_zero_le (show 0 ≤ hl4 zs by omega)
      obtain ⟨n, hn⟩ := Int.eq_ofNat_of_zero_le (show 0 ≤ wat zs 2 by omega)
      rw [hk] at K0
      rw [hn] at K1
      have c6 := l6.cell K0
      have d6 := l6.cell K1
      have e6 := l6.cell K2
      have p6 := (l6.block _ (by omega)).trans ((hb5.block _ (by omega)).trans a6)
      have q6 := (l6.block _ (by omega)).trans ((hb5.block _ (by omega)).trans a5)
      have hb6 := hb5.trans (l6.mono (by omega))
      have HK := hide hk
      have HN := hide hn
      have hkn : 20 ≤ k ∧ k ≤ n ∧ n ≤ zs.length ∧ n ≤ 65535 := by omega
      clear hk hn
      go_wp2_with fail
      refine (packet_any (w.heap.size + 1 + 1) _ zs k n w6 hB hl ((hI.below (hb3.trans (hb6.mono (by omega)))).mono (Nat.le_trans hb3.size hb6.size)) hkn.1 hkn.2.1 hkn.2.2.1 hkn.2.2.2 c6 d6 e6).mono ?_
      rintro e w7 ⟨so, sd, rfl, hOo, hOd, l7⟩
      have p7 := (l7.block _ (Array.getElem?_eq_some_iff.1 p6).1).trans p6
      have q7 := (l7.block _ (Array.getElem?_eq_some_iff.1 q6).1).trans q6
      have hb7 := hb6.trans (l7.mono (Nat.le_trans (by omega) hb6.size))
      obtain ⟨aso, cso, rfl, _, _⟩ := hOo.slice
      obtain ⟨asd, csd, rfl, _, _⟩ := hOd.slice
      have hlo : ((zs.take k).drop 20).length = min k zs.length - 20 := by simp
      have hld : ((zs.take n).drop k).length = n - k := by simp; omega
      rw [hlo] at hOo ⊢
      rw [hld] at hOd ⊢
      clear hlo hld
      have P7 := block_cell p7
      have F7 := block_frozen p7
      unfold pkt
      go_wp2_with fail
      clear P7 F7
      generalize hV8 : ((((((((w7.setCell ⟨w.heap.size, 0, none⟩ _).setCell ⟨w.heap.size, 1, none⟩ _).setCell ⟨w.heap.size, 2, none⟩ _).setCell ⟨w.heap.size, 3, none⟩ _).setCell ⟨w.heap.size, 4, none⟩ _).setCell ⟨w.heap.size, 5, none⟩ _).setCell ⟨w.heap.size, 6, none⟩ _).setCell ⟨w.heap.size, 7, none⟩ _).setCell ⟨w.heap.size, 8, none⟩ _ = V8
      have hV9 : V8 = putRow w7 w.heap.size 0 [.int .u8 (zs[1]?.getD 0), .int .u16 (wat zs 4), .bool (decide (16384 ≤ wat zs 6 % 32768)), .int .u8 (zs[8]?.getD 0), .int .u8 (zs[9]?.getD 0), .int .u32 (wat4 zs 12), .int .u32 (wat4 zs 16), .slice aso (min k zs.length - 20) cso, .slice asd (n - k) csd] := hV8.symm
      have hb8 : But (fun b => b = w.heap.size) w7 V8 := by rw [hV9]; exact putRow_but (E := fun b => b = w.heap.size) (n := w.heap.size) rfl _ _ _ _ (But.refl _ _)
      have p8 := putRow_all [.int .u8 (zs[1]?.getD 0), .int .u16 (wat zs 4), .bool (decide (16384 ≤ wat zs 6 % 32768)), .int .u8 (zs[8]?.getD 0), .int .u8 (zs[9]?.getD 0), .int .u32 (wat4 zs 12), .int .u32 (wat4 zs 16), .slice aso (min k zs.length - 20) cso, .slice asd (n - k) csd] p7 rfl
      rw [← hV9] at p8
      clear hV8 hV9
      have q8 := (hb8.block _ (Array.getElem?_eq_some_iff.1 q7).1 (by omega)).trans q7
      have P8 := block_cell p8
      have F8 := block_frozen p8
      have E8 := block_cell q8
      have G8 := block_frozen q8
      have hs7 : w.heap.size ≤ w7.heap.size := Nat.le_trans hb3.size hb7.size
      have hbW8 := (hb3.trans (hb7.mono (by omega))).trans (hb8.below hs7 (fun j h e => by omega))
      have hOo8 := hOo.but hb8 (fun b h e => by have := hb6.size; omega)
      have hOd8 := hOd.but hb8 (fun b h e => by have := hb6.size; omega)
      have hw8 : Later w7 w7 := Later.refl _
      by_cases h4 : n - k < 8
      · rw [show decide (((n - k : Nat) : Int) < 8) = true from by simp; omega]
        refine (refuse_yes 3 _).mono ?_
        rintro e w' ⟨rfl, rfl⟩
        have := HM.out
        rw [if_neg (by simp [h1]), if_neg (by simp [ral]; omega), if_neg (by simp [h3]), if_pos ⟨by simp, by have h5 := HK.out; have h6 := HN.out; simp [ral]; omega⟩] at this
        subst this
        exact door_refused _ w.heap.size w.heap.size _ 0 _ V8 p8 rfl q8 (Nat.le_refl _) rfl rfl (fun w' hb' => ⟨hbW8.trans hb', .inl ⟨by omega, rfl⟩⟩)
      rw [show decide (((n - k : Nat) : Int) < 8) = false from by simp; omega]
      refine (refuse_no 3 _).mono ?_
      rintro e w' ⟨rfl, rfl⟩
      go_wp2_with fail
      generalize hV9 : ((((((((V8.setCell ⟨w.heap.size, 0, none⟩ _).setCell ⟨w.heap.size, 1, none⟩ _).setCell ⟨w.heap.size, 2, none⟩ _).setCell ⟨w.heap.size, 3, none⟩ _).setCell ⟨w.heap.size, 4, none⟩ _).setCell ⟨w.heap.size, 5, none⟩ _).setCell ⟨w.heap.size, 6, none⟩ _).setCell ⟨w.heap.size, 7, none⟩ _).setCell ⟨w.heap.size, 8, none⟩ _ = V9
      have hV10 : V9 = putRow V8 w.heap.size 0 [.int .u8 (zs[1]?.getD 0), .int .u16 (wat zs 4), .bool (decide (16384 ≤ wat zs 6 % 32768)), .int .u8 (zs[8]?.getD 0), .int .u8 (zs[9]?.getD 0), .int .u32 (wat4 zs 12), .int .u32 (wat4 zs 16), .slice aso (min k zs.length - 20) cso, .slice asd (n - k) csd] := hV9.symm
      have hb9 : But (fun b => b = w.heap.size) V8 V9 := by rw [hV10]; exact putRow_but (E := fun b => b = w.heap.size) (n := w.heap.size) rfl _ _ _ _ (But.refl _ _)
      have p9 := putRow_all [.int .u8 (zs[1]?.getD 0), .int .u16 (wat zs 4), .bool (decide (16384 ≤ wat zs 6 % 32768)), .int .u8 (zs[8]?.getD 0), .int .u8 (zs[9]?.getD 0), .int .u32 (wat4 zs 12), .int .u32 (wat4 zs 16), .slice aso (min k zs.length - 20) cso, .slice asd (n - k) csd] p8 rfl
      rw [← hV10] at p9
      clear hV9 hV10
      have q9 := (hb9.block _ (Array.getElem?_eq_some_iff.1 q8).1 (by omega)).trans q8
      have q10 := heap_set1 q9 0 (.int .i64 0)
      have p10 := (Below.heap_setCell V9 ⟨w.heap.size + 1, 0, none⟩ (.int .i64 0) w.heap.size (by simp)).trans p9
      have hs8 : w.heap.size ≤ V8.heap.size := Nat.le_trans hs7 hb8.size
      have hb10 : Below w.heap.size w (V9.setCell ⟨w.heap.size + 1, 0, none⟩ (.int .i64 0)) := (hbW8.trans (hb9.below hs8 (fun j h e => by omega))).setCell (p := ⟨w.heap.size + 1, 0, none⟩) (Nat.le_succ _) _
      have hbb : But (fun b => b = w.heap.size ∨ b = w.heap.size + 1) V8 (V9.setCell ⟨w.heap.size + 1, 0, none⟩ (.int .i64 0)) := But.setCell (⟨hb9.os, hb9.tape, hb9.output, hb9.size, fun j hj he => hb9.block j hj (fun e => he (.inl e))⟩) (.inr rfl) _
      have := HM.out
      rw [if_neg (by simp [h1]), if_neg (by simp [ral]; omega), if_neg (by simp [h3]), if_neg (by have h5 := HK.out; have h6 := HN.out; simp [ral]; omega)] at this
      refine door_idle _ w.heap.size 0 _ _ _ _ _ _ _ _ _ _ p10 q10 rfl rfl ⟨hb10, .inr ⟨this, _, _, rfl, ?_, ?_⟩⟩
      · rw [HK.out]
        exact (hOo8.but hbb (fun b h e => by have := hb6.size; omega)).mono (Nat.le_trans hb3.size hb6.size)
      · rw [HK.out, show ral true zs = (n : Int) from by simp [ral]; have h6 := HN.out; omega]
        exact (hOd8.but hbb (fun b h e => by have := hb6.size; omega)).mono (Nat.le_trans hb3.size hb6.size)
end Go.Proofs.Ytcjigldianobgae
