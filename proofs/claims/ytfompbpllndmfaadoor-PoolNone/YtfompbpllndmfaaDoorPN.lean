/- Package pool: the pairs of a set, one after the other. -/
import Derived.Test.YtfompbpllndmfaaDoorPM
import Derived.Test.YtfompbpllndmfaaDoorRy
namespace Go.Proofs.YtfompbpllndmfaaDoor
open Go.RowKit Go.Shelf
set_option maxRecDepth 100000
attribute [local go_sem] Oper.semAt_some
set_option linter.unusedVariables false
set_option linter.unusedSimpArgs false

theorem KY.row {n₀ m : Nat} {A C : World} {row : Option Nat} (hn : n₀ ≤ m) (hsz : n₀ ≤ A.heap.size) (hg : A.grownBy C row) (hr : ∀ r, row = some r → m ≤ r ∧ ∃ o : Obj, A.heap[r]? = some o ∧ o.isCells = false) : KY n₀ A C :=
  ⟨⟨hg.os, hg.tape, hg.output, hg.size, fun i hi => hg.block i (by omega) (fun e => by have := (hr i e.symm).1; omega)⟩, fun k cur t f hk _ => (CT.row hg (fun r e => (hr r e).2)).2 _ _ hk rfl⟩

theorem round_any {m m' l l' : Nat} {P : Program} {f : FuncId} {tmps : Array Value} {assign body : Code} {w : World} {R : Ending → World → Prop}
    (h : RoundIn Fence.wide m P l f tmps assign body w R) : RoundIn (Fence.wide.inRound l') m' P l f tmps assign body w R := ⟨h.1, fun c cs _ => h.2 c cs (fun d h => by cases h)⟩

theorem prl_snoc_yes {ws : Nat → Nat} {pre : List Nat} {x : Nat} (h : prs ws x = true) : prl ws (pre ++ [x]) = prl ws pre ++ [x] := by unfold prl; simp [h]
theorem prl_snoc_no {ws : Nat → Nat} {pre : List Nat} {x : Nat} (h : prs ws x = false) : prl ws (pre ++ [x]) = prl ws pre := by unfold prl; simp [h]
set_option maxRecDepth 100000 in
set_option maxHeartbeats 2000000 in
theorem pairs_in (l B b n₀ base : Nat) (low high : Int) (ws : Nat → Nat) (J Jx : List Nat → World → Prop) (W : World)
    (hJ : ∀ s A B, J s A → Later A B → J s B) (hJo : OwnFrom W.heap.size J) (hJx : OwnFrom W.heap.size Jx)
    (hY : ∀ pre x V, J pre V → XP ws pre x V → YieldAt Fence.wide 3 Tryd.prog l (encN x) V fun e V' => (e = .returned (.bool true) ∧ J (pre ++ [x]) V' ∧ KY n₀ V V' ∧ KeepsFrom W.heap.size V V') ∨ (e = .returned (.bool false) ∧ Jx (pre ++ [x]) V' ∧ KeepsFrom W.heap.size V V'))
    (hB : W.heap[B]? = some (.cells #[.pointer (some ⟨b, 2, none⟩)] 62 (0, 0))) (hn0 : n₀ ≤ W.heap.size) (hT : PB base W b low high ws) (hb : b < n₀) (hz : Dz W) (hz0 : 0 < n₀) (h0 : J [] W) :
    CallsIn Fence.wide 4 Tryd.prog 36 #[.func (.yield l) #[] #[], .pointer (some ⟨B, 0, none⟩)] W fun e W' => (∃ v, e = .returned v) ∧ ((∃ xs, xs = prl ws (els ws) ∧ J xs W') ∨ (∃ pre, True ∧ Jx pre W')) := by
  have la1 : Later W (W.alloc (.cells #[.func (.yield l) #[] #[]] 32)) := (Below.refl _ _).alloc (Nat.le_refl _) _
  have hBc := block_cell (later_keep la1 hB)
  have hb4 : Later W ((W.alloc (.cells #[.func (.yield l) #[] #[]] 32)).alloc (.cells #[.pointer (some ⟨b, 2, none⟩)] 62)) := ((Below.refl _ _).alloc (Nat.le_refl _) _).alloc (by simp) _
  have c0 : ((W.alloc (.cells #[.func (.yield l) #[] #[]] 32)).alloc (.cells #[.pointer (some ⟨b, 2, none⟩)] 62)).heap[W.heap.size]? = some (.cells #[.func (.yield l) #[] #[]] 32) := (Below.heap_alloc _ _ _ (by simp)).trans (heap_alloc_new W _)
  have c1 : ((W.alloc (.cells #[.func (.yield l) #[] #[]] 32)).alloc (.cells #[.pointer (some ⟨b, 2, none⟩)] 62)).heap[W.heap.size + 1]? = some (.cells #[.pointer (some ⟨b, 2, none⟩)] 62) := by
    have := heap_alloc_new (W.alloc (.cells #[.func (.yield l) #[] #[]] 32)) (.cells #[.pointer (some ⟨b, 2, none⟩)] 62)
    rw [World.size_alloc] at this
    exact this
  have hs4 : ((W.alloc (.cells #[.func (.yield l) #[] #[]] 32)).alloc (.cells #[.pointer (some ⟨b, 2, none⟩)] 62)).heap.size = W.heap.size + 1 + 1 := by simp
  have C0 := hide c0
  have C1 := hide c1
  have HS4 := hide hs4
  clear c0 c1 hs4
  refine callsIn_of_wp_marks Tryd.func36 rfl trivial ?_ rfl
  simp only [Tryd.ntmps36, List.size_toArray, List.length_cons, List.length_nil, Nat.reduceAdd, Nat.reduceSub, Array.replicate_succ, Array.replicate_zero, List.push_toArray, List.append_toArray, List.nil_append, List.cons_append]
  gi_wp2_with (refine ⟨trivial, ?_⟩; gi_at_call 22; refine (callsIn_wide.2 (all8_in _ _)).mono ?_; rintro e w' ⟨rfl, rfl⟩)
  generalize ((W.alloc (.cells #[.func (.yield l) #[] #[]] 32)).alloc (.cells #[.pointer (some ⟨b, 2, none⟩)] 62)) = w4 at *
  have hs4 : w4.heap.size = W.heap.size + 1 + 1 := HS4.out
  have hT4 := hT.later hb4
  have hz4 := hz.later hb4
  clear hBc la1
  refine wpIn_rangeX (w := w4) rfl (by omega) (gf := 33) (lb := #[.pointer (some ⟨W.heap.size + 1, 0, none⟩)]) rfl trivial (enters_of Tryd.func33 (by kernel_rfl) rfl)
    (alln_genY 3 (by omega) (W.heap.size + 1) b n₀ base low high ws w4 C1.out (by omega) hT4 hb hz4 hz0)
    (fun h k => h.trans k) (fun V l o o' hl ho hc hw => KY.put (m := w4.heap.size) (by omega) hl ho hc) (fun hA hL => KY.of hL (by omega)) (fun _ _ _ _ h _ => h) (fun _ _ _ _ _ _ _ _ _ h => h) (fun _ => rfl)
    (fun pre V => J (prl ws pre) V ∧ KY n₀ W V ∧ V.heap[W.heap.size]? = some (.cells #[.func (.yield l) #[] #[]] 32 (0, 0)) ∧ V.heap[B]? = some (.cells #[.pointer (some ⟨b, 2, none⟩)] 62 (0, 0))) (fun pre V => ∃ p, Jx p V)
    ?own1 (fun s A C h l => ⟨hJ _ _ _ h.1 l, h.2.1.trans (KY.of l (by have := h.2.1.1.size; omega)), later_keep l h.2.2.1, later_keep l h.2.2.2⟩) ?own2 ⟨hJ _ _ _ h0 hb4, KY.of hb4 hn0, C0.out, later_keep hb4 hB⟩
    (fun x a' V => a' = { tmps := #[.func (.yield l) #[] #[], .pointer (some ⟨B, 0, none⟩), .pointer (some ⟨W.heap.size, 0, none⟩), .int .u16 (x : Int), .pointer (some ⟨b, 2, none⟩), .func (.func 33) #[] #[.pointer (some ⟨W.heap.size + 1, 0, none⟩)], .int .u16 (x : Int), undef, undef, undef, undef, undef, undef, undef, undef, undef], defers := [] })
    (fun x a' W l o o' hl ho hc h => h) ?assign ?body ?done ?stop
  case own1 =>
    rintro s A C row ⟨h1, h2, h3, h4⟩ hg hr
    have hsz := h2.1.size
    have hk := KY.row (n₀ := n₀) (m := w4.heap.size) (by omega) (by omega) hg hr
    exact ⟨hJo _ _ _ row h1 hg (fun r e => ⟨by have := (hr r e).1; omega, (hr r e).2⟩), h2.trans hk, hk.2 _ _ _ _ h3 (.inr rfl), hk.2 _ _ _ _ h4 (.inl rfl)⟩
  case own2 =>
    rintro s A C row ⟨p, h1⟩ hg hr
    exact ⟨p, hJx _ _ _ row h1 hg (fun r e => ⟨by have := (hr r e).1; omega, (hr r e).2⟩)⟩
  case assign =>
    rintro l pre x W K hsz _ hX hK
    dsimp only [encN]
    gi_wp2
    exact hK _ _ (Later.refl _) rfl
  case body =>
    rintro l2 pre x a' V ⟨h1, h2, h3, h4⟩ hX rfl
    have hTV : PB base V b low high ws := ⟨hT.1, hT.2.1, (h2.1.block b hb).trans hT.2.2⟩
    obtain ⟨rest, hR⟩ := hX
    have hxm : x < 65536 := els_lt (ws := ws) (by rw [← hR]; simp)
    have HP := hide (((callsIn_wide (n := 1)).2 (hasPair_any base b low high ws x V hTV hxm)).inRound l2)
    have K3 := block_cell h3
    have K4 := block_cell h4
    have hvs := h2.1.size
    have kl : ∀ V', Later V V' → KeepsFrom w4.heap.size V V' := fun V' hL => ⟨Below.size hL, fun i o hi ho hc => later_keep hL ho⟩
    cases hp : prs ws x with
    | false =>
      rw [hp] at HP
      gi_wp2
      refine ⟨trivial, HP.out.mono ?_⟩
      rintro e V1 ⟨rfl, l1⟩
      gi_wp2
      refine ⟨fun f h => (by cases h), ?_⟩
      gi_wp2
      exact ⟨kl _ l1, KY.of l1 (by omega), by rw [prl_snoc_no hp]; exact hJ _ _ _ h1 l1, h2.trans (KY.of l1 (by omega)), later_keep l1 h3, later_keep l1 h4⟩
    | true =>
      rw [hp] at HP
      have hXP : XP ws (prl ws pre) x V := ⟨prl ws rest, by rw [← hR]; unfold prl; simp [hp]⟩
      gi_wp2
      refine ⟨trivial, HP.out.mono ?_⟩
      rintro e V1 ⟨rfl, l1⟩
      have K3 := block_cell (later_keep l1 h3)
      obtain ⟨fn, tmps, assign, body, hy, hRd⟩ := hY _ _ V1 (hJ _ _ _ h1 l1) hXP
      dsimp only [encN] at hy
      have HR := hide (round_any (m' := 1) (l' := l2) hRd)
      clear hRd
      gi_wp2
      refine HR.out.mono ?_
      rintro e V2 (⟨rfl, j2, k2, f2⟩ | ⟨rfl, j2, f2⟩)
      · gi_wp2
        have kk : KY n₀ V V2 := (KY.of l1 (by omega)).trans k2
        exact ⟨⟨Nat.le_trans (Below.size l1) f2.size, fun i o hi ho hc => f2.same i o (by omega) (later_keep l1 ho) hc⟩, kk, by rw [prl_snoc_yes hp]; exact j2, h2.trans kk, kk.2 _ _ _ _ h3 (.inr rfl), kk.2 _ _ _ _ h4 (.inl rfl)⟩
      · gi_wp2
        exact ⟨⟨Nat.le_trans (Below.size l1) f2.size, fun i o hi ho hc => f2.same i o (by omega) (later_keep l1 ho) hc⟩, _, j2⟩
  case done =>
    rintro D xs V hD rfl ⟨h1, h2, h3, h4⟩ hK
    gi_wp2
    refine ⟨by simp, .inl ⟨_, _, rfl, run_takeDeferred hK, ?_⟩⟩
    exact ⟨.tuple #[], results_none rfl _ _ _, ⟨_, rfl⟩, .inl ⟨_, rfl, hJo.putObj _ h1 (by omega) hK rfl⟩⟩
  case stop =>
    rintro D pre V hD hSp ⟨p, h1⟩ hK
    gi_wp2
    refine ⟨by simp, .inl ⟨_, _, rfl, run_takeDeferred hK, ?_⟩⟩
    exact ⟨.tuple #[], results_none rfl _ _ _, ⟨_, rfl⟩, .inr ⟨p, trivial, hJx.putObj _ h1 (by omega) hK rfl⟩⟩

theorem pairs_gen (B b n₀ base : Nat) (low high : Int) (ws : Nat → Nat) (w : World) (hB : w.heap[B]? = some (.cells #[.pointer (some ⟨b, 2, none⟩)] 62 (0, 0))) (hn0 : n₀ ≤ w.heap.size) (hT : PB base w b low high ws) (hb : b < n₀) (hz : Dz w) (hz0 : 0 < n₀) :
    GenO Fence.wide 4 Tryd.prog 36 #[.pointer (some ⟨B, 0, none⟩)] encN (KY n₀) (XL (prl ws (els ws))) (fun xs => xs = prl ws (els ws)) (fun _ => True) w := fun l J Jx W hW hJ hJo hJx hY h0 =>
  pairs_in l B b n₀ base low high ws J Jx W hJ hJo hJx hY (later_keep hW hB) (Nat.le_trans hn0 (Below.size hW)) (hT.later hW) hb (hz.later hW) hz0 h0

set_option maxRecDepth 100000 in
set_option maxHeartbeats 4000000 in
theorem first8_o (wish cf gf : Nat) (pb : Value) (lb : Array Value) (q : Bool) (L : List Nat) (Kp : World → World → Prop) (w : World) (eg : ∀ args w, (callFunc cf args).run Tryd.prog w = .ok (.enter cf args) w) (egf : ∀ args w, (callFunc gf args).run Tryd.prog w = .ok (.enter gf args) w)
    (hq : ∀ W, Later w W → Calls Tryd.prog cf #[pb, .int .u16 (wish : Int)] W fun e W' => e = .returned (.bool q) ∧ Later W W')
    (hgen : ∀ w4, Later w w4 → GenO Fence.wide 4 Tryd.prog gf lb encN Kp (XL L) (fun xs => xs = L) (fun _ => True) w4)
    (hKt : ∀ {A B C : World}, Kp A B → Kp B C → Kp A C) (hKb : ∀ (w4 W : World) (l : Nat) (o o' : Obj), Later w w4 → w4.heap.size ≤ l → W.heap[l]? = some o → o.isCells = false → o.isWalk = false → Kp W (W.putObj l o'))
    (hKl : ∀ {w4 A B : World}, Later w w4 → w4.heap.size ≤ A.heap.size → Later A B → Kp A B) :
    Calls Tryd.prog 20 #[.int .u16 (wish : Int), .func (.func cf) #[pb] #[], .func (.func gf) #[] lb] w fun e w' => e = .returned (.tuple #[.int .u16 (fsn q wish L : Nat), .bool (fsb q L)]) ∧ Later w w' := by
  refine (callsIn_wide (n := 5)).1 ?_
  refine callsIn_of_wp_marks Tryd.func20 rfl trivial ?_ rfl
  simp only [Tryd.ntmps20, List.size_toArray, List.length_cons, List.length_nil, Nat.reduceAdd, Nat.reduceSub, Array.replicate_succ, Array.replicate_zero, List.push_toArray, List.append_toArray, List.nil_append, List.cons_append]
  have hb2 : Later w ((w.alloc (.cells #[.int .u16 0] 22)).alloc (.cells #[.bool false] 4)) := ((Below.refl _ _).alloc (Nat.le_refl _) _).alloc (by simp) _
  have c0 : ((w.alloc (.cells #[.int .u16 0] 22)).alloc (.cells #[.bool false] 4)).heap[w.heap.size]? = some (.cells #[.int .u16 0] 22) := (Below.heap_alloc _ _ _ (by simp)).trans (heap_alloc_new w _)
  have c1 : ((w.alloc (.cells #[.int .u16 0] 22)).alloc (.cells #[.bool false] 4)).heap[w.heap.size + 1]? = some (.cells #[.bool false] 4) := by
    have := heap_alloc_new (w.alloc (.cells #[.int .u16 0] 22)) (.cells #[.bool false] 4)
    rw [World.size_alloc] at this
    exact this
  have C0 := hide c0
  have C1 := hide c1
  have HQ := hide hq
  have HEG := hide eg
  clear c0 c1 hq eg
  gi_wp2
  refine ⟨trivial, ?_⟩
  rw [HEG.out]
  simp only [Oper.uponIn]
  generalize hw2 : (w.alloc (.cells #[.int .u16 0] 22)).alloc (.cells #[.bool false] 4) = w2 at *
  clear hw2
  refine ⟨fun _ => by omega, (callsIn_wide.2 (HQ.out w2 hb2)).mono ?_⟩
  rintro e w4 ⟨rfl, l4⟩
  have hb4 : Later w w4 := hb2.trans l4
  have d0 := later_keep l4 C0.out
  have d1 := later_keep l4 C1.out
  have hs4 : w.heap.size + 1 + 1 ≤ w4.heap.size := by have := (Array.getElem?_eq_some_iff.1 d1).1; omega
  cases q with
  | true =>
    have K0 := block_cell d0
    have K1 := block_cell d1
    have F0 := block_frozen d0
    have F1 := block_frozen d1
    gi_wp2
    obtain ⟨v0, v1, hb5⟩ := set_two d0 d1 (wish : Int) true
    generalize (w4.setCell ⟨w.heap.size, 0, none⟩ (.int .u16 (wish : Int))).setCell ⟨w.heap.size + 1, 0, none⟩ (.bool true) = V at *
    have k2 := block_cell v0
    have k3 := block_cell v1
    exact ⟨.tuple #[.int .u16 (wish : Int), .bool true], by simp [results, Tryd.results20, go_sem, k2, k3], rfl, Below.trans hb4 (hb5.below hb4.size (fun k hk e => by omega))⟩
  | false =>
    gi_wp2
    refine wpIn_rangeO (w := w4) rfl (by omega) (gf := gf) (lb := lb) rfl trivial egf (hgen w4 hb4) hKt (fun W l o o' hl ho hc hw => hKb w4 W l o o' hb4 hl ho hc hw) (fun hA hL => hKl hb4 hA hL) (fun _ _ _ _ h _ => h) (fun _ _ _ _ _ _ _ _ _ h => h) (fun _ => rfl)
      (fun pre W => PF0 w.heap.size pre W ∧ Below w.heap.size w W) (fun pre W => PF1 w.heap.size L pre W ∧ Below w.heap.size w W)
      (OwnFrom.and (fun s A B row hs hg hr => hs.ct (CT.row hg (fun r e => (hr r e).2))) (ownFrom_below (Nat.le_refl _) (by omega)))
      (fun s A B h l => ⟨h.1.ct (CT.of l), h.2.trans (l.mono h.2.size)⟩)
      (OwnFrom.and (fun s A B row hs hg hr => hs.ct (CT.row hg (fun r e => (hr r e).2))) (ownFrom_below (Nat.le_refl _) (by omega)))
      ⟨⟨rfl, d0, d1⟩, hb4⟩
      (fun x a' W => a' = { tmps := #[.int .u16 (wish : Int), .func (.func cf) #[pb] #[], .func (.func gf) #[] lb, undef, undef, undef, .pointer (some ⟨w.heap.size, 0, none⟩), .pointer (some ⟨w.heap.size + 1, 0, none⟩), .int .u16 (x : Int), .func (.func cf) #[pb] #[], .int .u16 (wish : Int), .bool false, undef, .func (.func gf) #[] lb, .int .u16 (x : Int), undef], defers := [] })
      (fun x a' W l o o' hl ho hc h => h) ?assign ?body ?done ?stop
    case assign =>
      rintro l pre x W K hsz _ hX hK
      dsimp only [encN]
      gi_wp2
      exact hK _ _ (Later.refl _) rfl
    case body =>
      rintro l pre x a' W ⟨⟨rfl, h0, h1⟩, hbW⟩ hX rfl
      obtain ⟨rest, hL⟩ := hX
      have K0 := block_cell h0
      have K1 := block_cell h1
      have F0 := block_frozen h0
      have F1 := block_frozen h1
      have hbsz := hbW.size
      gi_wp2
      obtain ⟨v0, v1, hb5⟩ := set_two h0 h1 (x : Int) true
      generalize (W.setCell ⟨w.heap.size, 0, none⟩ (.int .u16 (x : Int))).setCell ⟨w.heap.size + 1, 0, none⟩ (.bool true) = V at *
      exact ⟨⟨hb5.size, fun i o hi ho hc => (hb5.block i (Array.getElem?_eq_some_iff.1 ho).1 (by omega)).trans ho⟩, ⟨x, rest, rfl, hL.symm, v0, v1⟩, hbW.trans (hb5.below hbsz (fun k hk e => by omega))⟩
    case done =>
      rintro D xs W hD rfl ⟨⟨hx, h0, h1⟩, hbW⟩ hK
      subst hx
      have K0 := block_cell h0
      have K1 := block_cell h1
      have F0 := block_frozen h0
      have F1 := block_frozen h1
      have hbsz := hbW.size
      gi_wp2
      obtain ⟨v0, v1, hb5⟩ := set_two h0 h1 0 false
      have hD5 := (hb5.block D (Array.getElem?_eq_some_iff.1 hK).1 (by omega)).trans hK
      generalize (W.setCell ⟨w.heap.size, 0, none⟩ (.int .u16 0)).setCell ⟨w.heap.size + 1, 0, none⟩ (.bool false) = V at *
      exact first_end w.heap.size D 0 false V w (by omega) (hbW.trans (hb5.below hbsz (fun k hk e => by omega))) v0 v1 hD5 (Nat.le_refl _) _ _ _ _ _ _ _ _ _ _ _ _ _ _
    case stop =>
      rintro D pre W hD hSp ⟨⟨x, rest, rfl, hL, h0, h1⟩, hbW⟩ hK
      subst hL
      gi_wp2
      exact first_end w.heap.size D (x : Int) true W w (by omega) hbW h0 h1 hK (Nat.le_refl _) _ _ _ _ _ _ _ _ _ _ _ _ _ _
end Go.Proofs.YtfompbpllndmfaaDoor
