/- Package segs: the walk over a header's options, and the options that it yields. -/
import Derived.Test.YtclkfmdlgffbeaaSK
namespace Go.Proofs.Ytclkfmdlgffbeaa
open Go.RowKit Go.Shelf
set_option maxRecDepth 100000
attribute [local go_sem] Oper.semAt_some
set_option linter.unusedVariables false
set_option linter.unusedSimpArgs false

/-- An item: the value, and the option that it tells (none: they are wrong). -/
abbrev It := Value × Option Opt
def encI (x : It) : Array Value := #[x.1, .bool x.2.isSome]
def XI (n₁ N : Nat) (pre : List It) (x : It) (V : World) : Prop := pre.length ≤ N ∧
  match x.2 with
  | some o => ∃ s, x.1 = .agg #[.int .u8 o.1, s] ∧ Ow n₁ V s o.2
  | none => x.1 = .agg #[.int .u8 0, .slice none 0 0]
def SI (zs : List Int) (xs : List It) : Prop := (∃ os, opts zs = some os ∧ xs.map (·.2) = os.map some) ∨ (opts zs = none ∧ ∃ l v, xs = l ++ [(v, none)])
def SpI (zs : List Int) (xs : List It) : Prop := (∃ l v, xs = l ++ [(v, none)]) → opts zs = none
/-- What has been yielded up to a place. -/
def InvI (zs : List Int) (p : Nat) (pre : List It) : Prop := pre.length ≤ p ∧ ∃ os, pre.map (·.2) = os.map some ∧ opts zs = (opts (zs.drop p)).map (os ++ ·)
theorem InvI.zero (zs : List Int) : InvI zs 0 [] := ⟨Nat.le_refl _, [], rfl, by rw [List.drop_zero]; cases opts zs <;> rfl⟩
theorem InvI.bad {zs : List Int} {p : Nat} {pre : List It} (h : InvI zs p pre) (hn : opts (zs.drop p) = none) : opts zs = none := by
  obtain ⟨_, os, _, h2⟩ := h
  rw [h2, hn]
  rfl
theorem InvI.done {zs : List Int} {p : Nat} {pre : List It} (h : InvI zs p pre) (hn : opts (zs.drop p) = some []) : SI zs pre := by
  obtain ⟨_, os, h1, h2⟩ := h
  exact .inl ⟨os, by rw [h2, hn]; simp, h1⟩
theorem InvI.next {zs : List Int} {p q : Nat} {pre : List It} {o : Opt} {v : Value} (h : InvI zs p pre) (hq : p + 1 ≤ q) (hn : opts (zs.drop p) = (opts (zs.drop q)).map (o :: ·)) : InvI zs q (pre ++ [(v, some o)]) := by
  obtain ⟨hl, os, h1, h2⟩ := h
  refine ⟨by simp; omega, os ++ [o], by simp [h1], ?_⟩
  rw [h2, hn]
  cases opts (zs.drop q) <;> simp
theorem jump_ret (l : Nat) (J : Act → World → Prop) (Q : Exit → Act → World → Prop) (a : Act) (w : World) : Exit.jump l J Q .ret a w = Q .ret a w := rfl
theorem jump_normal (l : Nat) (J : Act → World → Prop) (Q : Exit → Act → World → Prop) (a : Act) (w : World) : Exit.jump l J Q .normal a w = Q .normal a w := rfl
theorem KB.later {n₀ Bs : Nat} {A B : World} (h1 : n₀ ≤ A.heap.size) (h2 : Bs < A.heap.size) (h : Later A B) : KB n₀ Bs A B := ⟨h.mono h1, h.block Bs h2⟩
theorem notLast {pre : List It} {v : Value} {o : Opt} (h : ∃ l v', pre ++ [(v, some o)] = l ++ [((v' : Value), (none : Option Opt))]) : False := by
  obtain ⟨l, v', h⟩ := h
  have h3 := congrArg List.getLast? h
  simp at h3
theorem drop_eq (zs : List Int) (p : Nat) (h : p < zs.length) : zs.drop p = zs[p]?.getD 0 :: zs.drop (p + 1) := by
  rw [List.drop_eq_getElem_cons h]
  simp [h]

set_option maxRecDepth 100000 in
set_option maxHeartbeats 4000000 in
theorem walk1_in (n : Nat) (hn : 1 ≤ n) (l Bs n₀ n₁ b off cap : Nat) (zs : List Int) (hB : Mt.By zs) (hreach : zs.length ≤ cap) (hcap : cap ≤ 9223372036854775807) (hlen : zs.length ≤ 140737488355328) (hb : b < n₀) (J Jx : List It → World → Prop)
    (hJ : ∀ s A B, J s A → Later A B → J s B)
    (hY : ∀ pre x V, J pre V → XI n₁ zs.length pre x V → YieldAt Fence.wide (n - 1) Try.prog l (encI x) V fun e V' => (e = .returned (.bool true) ∧ J (pre ++ [x]) V' ∧ KB n₀ Bs V V') ∨ (e = .returned (.bool false) ∧ Jx (pre ++ [x]) V'))
    (W : World) (hn1 : n₁ ≤ W.heap.size) (hBs : W.cell? ⟨Bs, 0, none⟩ = some (.slice (some ⟨b, off, none⟩) zs.length cap)) (hBl : Bs < W.heap.size) (hn0 : n₀ ≤ W.heap.size) (hc : ∀ j, j < zs.length → W.cell? ⟨b, off + j, none⟩ = some (.int .u8 (zs[j]?.getD 0))) (h0 : J [] W) :
    CallsIn Fence.wide n Try.prog 64 #[.func (.yield l) #[] #[], .pointer (some ⟨Bs, 0, none⟩)] W fun e W' => (∃ v, e = .returned v) ∧ ((∃ xs, SI zs xs ∧ J xs W') ∨ (∃ pre, SpI zs pre ∧ Jx pre W')) := by
  refine callsIn_of_wp Try.func64 rfl trivial ?_ rfl
  simp only [Try.ntmps64, List.size_toArray, List.length_cons, List.length_nil, Nat.reduceAdd, Nat.reduceSub, Array.replicate_succ, Array.replicate_zero, List.push_toArray, List.append_toArray, List.nil_append, List.cons_append]
  refine wpIn_wide.2 (wp_scope_jumps 0 (fun a w => ∃ (tl : List Value) (pre : List It), tl.length = 49 ∧ a = { tmps := (Value.func (.yield l) #[] #[] :: .pointer (some ⟨Bs, 0, none⟩) :: tl).toArray, defers := [] } ∧ J pre w ∧ opts zs = none ∧ pre.length ≤ zs.length) (fun _ _ => 0) rfl ((wpIn_wide (n := n)).1 ?_) (fun a w hJ1 => (wpIn_wide (n := n)).1 ?_))
  · have HC := hide hc
    clear hc
    gi_wp2
    gi_loopw [3] (fun i wr => ∃ (p : Nat) (pre : List It), p ≤ zs.length ∧ i = .int .i64 (p : Int) ∧ InvI zs p pre ∧ J pre wr ∧ KB n₀ Bs W wr) (fun i _ => zs.length - (intOf i).toNat)
    case atStart => exact ⟨0, [], by omega, rfl, InvI.zero zs, h0, KB.refl _ _ _⟩
    case round =>
      obtain ⟨p, pre, hp, rfl, hinv, hJs, hnx⟩ := hrel
      have hbx : wr.cell? ⟨Bs, 0, none⟩ = some (.slice (some ⟨b, off, none⟩) zs.length cap) := hnx.box.trans hBs
      have hcx : ∀ j, j < zs.length → wr.cell? ⟨b, off + j, none⟩ = some (.int .u8 (zs[j]?.getD 0)) := fun j h => (hnx.1.cell (p := ⟨b, off + j, none⟩) hb).trans (HC.out j h)
      by_cases hlt : p < zs.length
      · have c0 := hcx p hlt
        have b0 := hB.at p
        have HD := hide (drop_eq zs p hlt)
        have hlt' : (p : Int) < zs.length := by omega
        have hRr : Rd n₀ wr (.slice (some ⟨b, off + p, none⟩) (zs.length - p) (cap - p)) (zs.drop p) := .inr ⟨b, off + p, cap - p, by simp, by intro e; have := congrArg List.length e; simp at this; omega, by simp; omega, by omega, hb, fun j hj => by
          have h9 := hcx (p + j) (by simp at hj; omega)
          rw [show off + p + j = off + (p + j) from by omega, h9]
          simp [List.getElem?_drop]⟩
        have HRR := hide hRr
        have c1 : p + 1 < zs.length → wr.cell? ⟨b, off + p + 1, none⟩ = some (.int .u8 (zs[p + 1]?.getD 0)) := fun h => by have := hcx (p + 1) h; rw [← Nat.add_assoc] at this; exact this
        have HC1 := hide c1
        clear hcx c1
        have hn0' : n₀ ≤ wr.heap.size := Nat.le_trans hn0 hnx.1.size
        have hBl' : Bs < wr.heap.size := Nat.lt_of_lt_of_le hBl hnx.1.size
        generalize hx : zs[p]?.getD 0 = x at c0 b0 HD
        have HX := hide hx
        have hcp : (zs.length - p : Nat) ≤ cap - p := by omega
        clear hx hRr
        by_cases x0 : x = 0
        · have t0 : (x == 0) = true := by simp [x0]
          have X0 := hide x0
          clear x0
          gi_wp2
          refine ⟨trivial, ?_⟩
          refine (callsIn_wide.2 (blank_any n₀ (.slice (some ⟨b, off + p, none⟩) (zs.length - p) (cap - p)) (zs.drop p) _ HRR.out (by simp; omega))).mono ?_
          rintro e w' ⟨rfl, rfl⟩
          cases hz : azb (zs.drop p) with
          | true =>
            gi_wp2
            rw [jump_ret]
            refine bodyPost_ret (results_none rfl _ _ _) rfl ?_
            refine ⟨⟨_, rfl⟩, .inl ⟨pre, hinv.done ?_, hJs⟩⟩
            have h1 := of_decide_eq_true hz
            rw [HD.out] at h1 ⊢
            rw [X0.out, opts_zero, if_pos (fun y hy => h1 y (by simp [hy]))]
          | false =>
            have hno : opts (zs.drop p) = none := by
              have h1 := of_decide_eq_false hz
              rw [HD.out] at h1 ⊢
              rw [X0.out] at h1 ⊢
              rw [opts_zero, if_neg (fun h => h1 (fun y hy => by rcases List.mem_cons.1 hy with h' | h'; exact h'; exact h y h'))]
            gi_wp2
            refine wpIn_goto ⟨rfl, _, pre, ?_, rfl, hJs, hinv.bad hno, Nat.le_trans hinv.1 hp⟩
            rfl
        · have t0 : (x == 0) = false := by simp [x0]
          have X0 := hide x0
          clear x0
          by_cases x1 : x = 1
          · have t1 : (x == 1) = true := by simp [x1]
            subst x1
            have hT0 : ((zs.drop p).take 1)[0]?.getD 0 = 1 := by rw [HD.out]; rfl
            have hBt : Mt.By ((zs.drop p).take 1) := (hB.drop p).take 1
            have hTw : ((zs.drop p).take 1)[0]?.getD 0 ≠ 1 → 2 ≤ ((zs.drop p).take 1).length := fun h => (h hT0).elim
            have hRt' : ∀ v, Rd n₀ wr v ((zs.drop p).take 1) → Rd wr.heap.size wr v ((zs.drop p).take 1) := fun _ h => h.mono hn0'
            have hn1' : n₁ ≤ wr.heap.size := Nat.le_trans hn1 hnx.1.size
            gi_wp2
            refine ⟨trivial, ?_⟩
            have hRt := HRR.out.take 1 (by omega)
            refine (callsIn_wide.2 (optionOf_any _ ((zs.drop p).take 1) wr (hRt' _ hRt) hBt (by simp; omega) (by simp; omega) hTw)).mono ?_
            rw [hT0]
            rintro e V ⟨hbV, s, rfl, hOs⟩
            rw [if_pos rfl] at hOs
            obtain ⟨fn, tmps, assign, body, hy, hR⟩ := hY pre (.agg #[.int .u8 1, s], some (1, [])) V (hJ _ _ _ hJs hbV) ⟨Nat.le_trans hinv.1 hp, s, rfl, hOs.mono hn1'⟩
            dsimp only [encI, Option.isSome] at hy
            have hbx2 : V.cell? ⟨Bs, 0, none⟩ = some (.slice (some ⟨b, off, none⟩) zs.length cap) := (hbV.cell (p := ⟨Bs, 0, none⟩) hBl').trans hbx
            gi_wp2
            refine hR.mono ?_
            rintro e W3 (⟨rfl, hJ3, hk3⟩ | ⟨rfl, hJx3⟩)
            · gi_wp2
              go_roundw
              case rel => exact ⟨p + 1, _, by omega, by go_num, hinv.next (by omega) (by rw [HD.out, opts_one]), hJ3, hnx.trans ((KB.later hn0' hBl' hbV).trans hk3)⟩
              case measure => simp [intOf]; omega
            · gi_wp2
              rw [jump_ret]
              refine bodyPost_ret (results_none rfl _ _ _) rfl ?_
              exact ⟨⟨_, rfl⟩, .inr ⟨_, fun hl => (notLast hl).elim, hJx3⟩⟩
          · have t1 : (x == 1) = false := by simp [x1]
            have X1 := hide x1
            clear x1
            by_cases hs2 : zs.length - p < 2
            · have hno : opts (zs.drop p) = none := by
                rw [HD.out, List.drop_of_length_le (by omega)]
                exact opts_bare x X0.out X1.out
              have t2 : ((zs.length - p : Nat) : Int) < 2 := by omega
              gi_wp2
              refine wpIn_goto ⟨rfl, _, pre, ?_, rfl, hJs, hinv.bad hno, Nat.le_trans hinv.1 hp⟩
              rfl
            · have hp1 : p + 1 < zs.length := by omega
              have t2 : ¬ ((zs.length - p : Nat) : Int) < 2 := by omega
              have c1 := HC1.out hp1
              have b1 := hB.at (p + 1)
              have HD2 := hide (drop_eq zs (p + 1) hp1)
              have i1 : (1 : Int) < ((zs.length - p : Nat) : Int) := by omega
              clear HC1
              generalize hz : zs[p + 1]?.getD 0 = z at c1 b1 HD2
              have HZ := hide hz
              clear hz
              by_cases hz2 : z < 2
              · have hno : opts (zs.drop p) = none := by rw [HD.out, HD2.out]; exact opts_wrong x z _ X0.out X1.out (.inl hz2)
                gi_wp2
                refine wpIn_goto ⟨rfl, _, pre, ?_, rfl, hJs, hinv.bad hno, Nat.le_trans hinv.1 hp⟩
                rfl
              · by_cases hzl : ((zs.length - p : Nat) : Int) < z
                · have hno : opts (zs.drop p) = none := by rw [HD.out, HD2.out]; exact opts_wrong x z _ X0.out X1.out (.inr (by simp; omega))
                  gi_wp2
                  refine wpIn_goto ⟨rfl, _, pre, ?_, rfl, hJs, hinv.bad hno, Nat.le_trans hinv.1 hp⟩
                  rfl
                · obtain ⟨m, rfl⟩ := Int.eq_ofNat_of_zero_le b1.1
                  have hm2 : 2 ≤ m := by omega
                  have hml : p + m ≤ zs.length := by omega
                  have hT0 : ((zs.drop p).take m)[0]?.getD 0 = x := by rw [HD.out]; cases m with | zero => omega | succ k => rfl
                  have hBt : Mt.By ((zs.drop p).take m) := (hB.drop p).take m
                  have hTw : ((zs.drop p).take m)[0]?.getD 0 ≠ 1 → 2 ≤ ((zs.drop p).take m).length := fun _ => by simp; omega
                  have hRt' : ∀ v, Rd n₀ wr v ((zs.drop p).take m) → Rd wr.heap.size wr v ((zs.drop p).take m) := fun _ h => h.mono hn0'
                  have hn1' : n₁ ≤ wr.heap.size := Nat.le_trans hn1 hnx.1.size
                  have hni : opts (zs.drop p) = (opts (zs.drop (p + m))).map ((x, ((zs.drop p).take m).drop 2) :: ·) := by
                    have e1 : zs.drop p = x :: (m : Int) :: zs.drop (p + 2) := by rw [HD.out, HD2.out]
                    have h9 := opts_more x (m : Int) (zs.drop (p + 2)) X0.out X1.out (by omega) (by simp; omega)
                    rw [← e1] at h9
                    rw [h9, List.drop_drop]
                    have e2 : ((zs.drop p).take m).drop 2 = (zs.drop (p + 2)).take ((m : Int).toNat - 2) := by
                      rw [List.drop_take, List.drop_drop]
                      simp
                    rw [e2, show p + 2 + ((m : Int).toNat - 2) = p + m from by omega]
                  gi_wp2
                  refine ⟨trivial, ?_⟩
                  have hRt := HRR.out.take m (by omega)
                  refine (callsIn_wide.2 (optionOf_any _ ((zs.drop p).take m) wr (hRt' _ hRt) hBt (by simp; omega) (by simp; omega) hTw)).mono ?_
                  rw [hT0]
                  rintro e V ⟨hbV, s, rfl, hOs⟩
                  rw [if_neg X1.out] at hOs
                  obtain ⟨fn, tmps, assign, body, hy, hR⟩ := hY pre (.agg #[.int .u8 x, s], some (x, ((zs.drop p).take m).drop 2)) V (hJ _ _ _ hJs hbV) ⟨Nat.le_trans hinv.1 hp, s, rfl, hOs.mono hn1'⟩
                  dsimp only [encI, Option.isSome] at hy
                  have hbx2 : V.cell? ⟨Bs, 0, none⟩ = some (.slice (some ⟨b, off, none⟩) zs.length cap) := (hbV.cell (p := ⟨Bs, 0, none⟩) hBl').trans hbx
                  gi_wp2
                  refine hR.mono ?_
                  rintro e W3 (⟨rfl, hJ3, hk3⟩ | ⟨rfl, hJx3⟩)
                  · gi_wp2
                    go_roundw
                    case rel => exact ⟨p + m, _, by omega, by go_num, hinv.next (by omega) hni, hJ3, hnx.trans ((KB.later hn0' hBl' hbV).trans hk3)⟩
                    case measure => simp [intOf]; omega
                  · gi_wp2
                    rw [jump_ret]
                    refine bodyPost_ret (results_none rfl _ _ _) rfl ?_
                    exact ⟨⟨_, rfl⟩, .inr ⟨_, fun hl => (notLast hl).elim, hJx3⟩⟩
      · obtain rfl : p = zs.length := by omega
        clear hcx
        gi_wp2
        rw [jump_ret]
        refine bodyPost_ret (results_none rfl _ _ _) rfl ?_
        exact ⟨⟨_, rfl⟩, .inl ⟨pre, hinv.done (by rw [List.drop_of_length_le (Nat.le_refl _)]; rfl), hJs⟩⟩
  · obtain ⟨tl, pre, htl, rfl, hJs, hno, hpl⟩ := hJ1
    obtain ⟨v0, v1, v2, v3, v4, v5, v6, v7, v8, v9, v10, v11, v12, v13, v14, v15, v16, v17, v18, v19, v20, v21, v22, v23, v24, v25, v26, v27, v28, v29, v30, v31, v32, v33, v34, v35, v36, v37, v38, v39, v40, v41, v42, v43, v44, v45, v46, v47, v48, rfl⟩ := list49 htl
    have HNO := hide hno
    clear hno htl
    obtain ⟨fn, tmps, assign, body, hy, hR⟩ := hY pre (.agg #[.int .u8 0, .slice none 0 0], none) w hJs ⟨hpl, rfl⟩
    dsimp only [encI, Option.isSome] at hy
    gi_wp2
    refine hR.mono ?_
    rintro e W3 (⟨rfl, hJ3, hk3⟩ | ⟨rfl, hJx3⟩)
    · gi_wp2
      rw [jump_normal]
      go_end0
      exact ⟨⟨_, rfl⟩, .inl ⟨_, .inr ⟨HNO.out, _, _, rfl⟩, hJ3⟩⟩
    · gi_wp2
      rw [jump_normal]
      go_end0
      exact ⟨⟨_, rfl⟩, .inr ⟨_, fun _ => HNO.out, hJx3⟩⟩
end Go.Proofs.Ytclkfmdlgffbeaa
