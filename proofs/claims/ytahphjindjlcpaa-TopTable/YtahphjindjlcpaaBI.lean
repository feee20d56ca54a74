/- Package table: all the rows, one after the other. -/
import Derived.Test.YtahphjindjlcpaaBH
import Derived.Deep.MidRow
import Derived.Test.YtahphjindjlcpaaRx
namespace Go.Proofs.Ytahphjindjlcpaa
open Go.RowKit Go.Shelf
set_option maxRecDepth 100000
attribute [local go_sem] Oper.semAt_some
set_option linter.unusedVariables false
set_option linter.unusedSimpArgs false

/-- All rows, list after list. -/
def allR (ls : Nat → List Rw) : List Rw := (List.range 256).flatMap ls
def partR (ls : Nat → List Rw) (i : Nat) : List Rw := (List.range i).flatMap ls
theorem partR_succ (ls : Nat → List Rw) (i : Nat) : partR ls (i + 1) = partR ls i ++ ls i := by
  unfold partR
  rw [List.range_succ, List.flatMap_append]
  simp
theorem allR_at (ls : Nat → List Rw) (i k : Nat) (hi : i < 256) (hk : k < (ls i).length) : ∃ rest, (partR ls i ++ (ls i).take k) ++ (ls i)[k] :: rest = allR ls := by
  obtain ⟨m, hm⟩ : ∃ m, 256 = i + 1 + m := ⟨255 - i, by omega⟩
  have e : allR ls = partR ls (i + 1) ++ ((List.range m).map (i + 1 + ·)).flatMap ls := by
    unfold allR partR
    rw [hm, List.range_add, List.flatMap_append]
  refine ⟨(ls i).drop (k + 1) ++ ((List.range m).map (i + 1 + ·)).flatMap ls, ?_⟩
  rw [e, partR_succ]
  have h2 : ls i = (ls i).take k ++ (ls i)[k] :: (ls i).drop (k + 1) := by
    rw [← List.drop_eq_getElem_cons hk, List.take_append_drop]
  rw [List.append_assoc, List.append_assoc]
  congr 1
  rw [← List.cons_append, ← List.append_assoc, ← h2]

def encR (r : Rw) : Array Value := #[.agg (rwc r).toArray]
def XR (ls : Nat → List Rw) (pre : List Rw) (x : Rw) (_V : World) : Prop := ∃ rest, pre ++ x :: rest = allR ls

theorem wpListIn_valD {F : Fence} {n : Nat} {P : Program} {ops : Array Oper} {rest : List Oper} {o : Oper} {a : Act} {Q : Exit → Act → World → Prop} {w : World} (k : Nat) (hd : o.dst = some k) (hg : o.guard = none) (v : Value) (ha : o.about P w a.eval = none) (h : (o.semAt F.round a.eval).run P w = .ok (.value v) w)
    (hk : wpListIn F n P ops Q rest (a.put o.dst v) w) : wpListIn F n P ops Q (o :: rest) a w := wpListIn_plain hg fun K hK => by unfold Oper.wpIn; rw [h]; exact ⟨fun f hf => (by rw [ha] at hf; cases hf), hK _ _ hk⟩

theorem idx_arr (vs : List Value) (i : Nat) (w : World) (hv : vs.length = 256) (hi : i < 256) : (Instr.index 58 (.agg vs.toArray) (.int .i64 (i : Int))).run Try.prog w = .ok (vs[i]?.getD undef) w := by
  have h1 : (i : Int) < 256 := by omega
  have h2 : i < vs.length := by omega
  simp [Instr.index, go_sem, h1, h2, hv, hi]

set_option maxRecDepth 100000 in
set_option maxHeartbeats 4000000 in
theorem all1_in (n : Nat) (hn : 1 ≤ n) (l B bt n₀ : Nat) (vs : List Value) (ls : Nat → List Rw) (hv : vs.length = 256) (J Jx : List Rw → World → Prop)
    (hJ : ∀ s A B, J s A → Later A B → J s B)
    (hY : ∀ pre x V, J pre V → XR ls pre x V → YieldAt Fence.wide (n - 1) Try.prog l (encR x) V fun e V' => (e = .returned (.bool true) ∧ J (pre ++ [x]) V' ∧ Below n₀ V V') ∨ (e = .returned (.bool false) ∧ Jx (pre ++ [x]) V'))
    (W : World) (hB : W.cell? ⟨B, 0, none⟩ = some (.pointer (some ⟨bt, 3, none⟩))) (hn0 : n₀ ≤ W.heap.size) (hc : ∀ i, i < 256 → W.cell? ⟨bt, 3 + i, none⟩ = some (vs[i]?.getD undef)) (hR : ∀ i, i < 256 → RdR n₀ W (vs[i]?.getD undef) (ls i)) (h0 : J [] W) :
    CallsIn Fence.wide n Try.prog 51 #[.func (.yield l) #[] #[], .pointer (some ⟨B, 0, none⟩)] W fun e W' => (∃ v, e = .returned v) ∧ ((∃ xs, xs = allR ls ∧ J xs W') ∨ (∃ pre, True ∧ Jx pre W')) := by
  have hra : W.rangeAt bt 3 vs := fun j v hj => by
    have hlt : j < 256 := by have := (List.getElem?_eq_some_iff.1 hj).1; omega
    rw [hc j hlt, hj]; rfl
  have hL : (Instr.loadAt 58 (.pointer (some ⟨bt, 3, none⟩))).run Try.prog W = .ok (.agg vs.toArray) W := run_loadAt_mid W bt 3 _ vs _ hra Try.underlying58 rfl (by rw [hv]; kernel_rfl)
  have HC := hide hc
  have HR := hide hR
  have HL := hide hL
  clear hc hR hra hL
  refine callsIn_of_wp Try.func51 rfl trivial ?_ rfl
  simp only [Try.ntmps51, List.size_toArray, List.length_cons, List.length_nil, Nat.reduceAdd, Nat.reduceSub, Array.replicate_succ, Array.replicate_zero, List.push_toArray, List.append_toArray, List.nil_append, List.cons_append]
  gi_wp2_with (refine wpListIn_valD 10 rfl rfl (.agg vs.toArray) rfl (by go_loud (show Sem.run _ (Instr.loadAt 58 (.pointer (some ⟨bt, 3, none⟩)) >>= fun v => pure (Next.value v)) _ = _; rw [Sem.run_bind, HL.out]; rfl)) ?_)
  gi_loopw [11] (fun i wr => ∃ p : Nat, p ≤ 256 ∧ i = .int .i64 (p : Int) ∧ J (partR ls p) wr ∧ Below n₀ W wr) (fun i _ => 256 - (intOf i).toNat)
  case atStart => exact ⟨0, by omega, rfl, h0, Below.refl _ _⟩
  case round =>
    obtain ⟨p, hp, rfl, hJp, hbp⟩ := hrel
    by_cases hlt : p < 256
    · have hlt' : (p : Int) < 256 := by omega
      have hRp := (HR.out p hlt).below hbp
      have hix := idx_arr vs p wr hv hlt
      generalize hvp : vs[p]?.getD undef = v at *
      obtain ⟨sa, cap, rfl, hc1, hc2⟩ := hRp.slice
      have HIX := hide hix
      have HRP := hide hRp
      have HVP := hide hvp
      clear hvp hix hRp
      gi_wp2_with (refine wpListIn_valD 13 rfl rfl (.slice sa (ls p).length cap) rfl (by go_loud (show Sem.run _ (Instr.index 58 (.agg vs.toArray) (.int .i64 (p : Int)) >>= fun v => pure (Next.value v)) _ = _; rw [Sem.run_bind, HIX.out]; rfl)) ?_)
      rename World => w1
      gi_loopw [16] (fun i wx => ∃ k : Nat, k ≤ (ls p).length ∧ i = .int .i64 (k : Int) ∧ J (partR ls p ++ (ls p).take k) wx ∧ Below n₀ W wx) (fun i _ => (ls p).length - (intOf i).toNat)
      case atStart => exact ⟨0, by omega, rfl, by rw [List.take_zero, List.append_nil]; exact hJp, hbp⟩
      case round =>
        obtain ⟨k, hk, rfl, hJk, hbk⟩ := hrel
        by_cases hkl : k < (ls p).length
        · obtain ⟨g, off, cp, e, _, _, hgn, hcs⟩ := ((HR.out p hlt).below hbk |> fun h => show RdR n₀ wr (.slice sa (ls p).length cap) (ls p) from HVP.out ▸ h).cells (by omega)
          simp at e
          obtain ⟨rfl, rfl⟩ := e
          have c0 := hcs k hkl 0 (by omega)
          have c1 := hcs k hkl 1 (by omega)
          have c2 := hcs k hkl 2 (by omega)
          have c3 := hcs k hkl 3 (by omega)
          have c4 := hcs k hkl 4 (by omega)
          have c5 := hcs k hkl 5 (by omega)
          have c6 := hcs k hkl 6 (by omega)
          have c7 := hcs k hkl 7 (by omega)
          have hkl' : (k : Int) < (ls p).length := by omega
          have hat := allR_at ls p k hlt hkl
          have htk : partR ls p ++ (ls p).take (k + 1) = partR ls p ++ (ls p).take k ++ [(ls p)[k]] := by rw [List.append_assoc, List.take_append_getElem hkl]
          clear hcs
          generalize hgo : (ls p)[k] = r at *
          have HAT := hide hat
          have HTK := hide htk
          clear hgo hat htk
          simp only [rwc, List.getElem?_cons_zero, List.getElem?_cons_succ, Nat.add_zero] at c0 c1 c2 c3 c4 c5 c6 c7
          have la : Later wr (wr.alloc (.cells #[.int .u8 r.p, .int .u32 r.s, .int .u32 r.d, .int .u16 r.a, .int .u16 r.b, .int .i64 r.id, .int .i64 r.till, .int .i64 r.turn] 65)) := (Below.refl _ _).alloc (Nat.le_refl _) _
          obtain ⟨fn, tmps, assign, body, hy, hR⟩ := hY _ r _ (hJ _ _ _ hJk la) HAT.out
          dsimp only [encR, rwc] at hy
          have hwr := Nat.le_trans hn0 hbk.size
          gi_wp2
          refine hR.mono ?_
          rintro e W3 (⟨rfl, hJ3, hk3⟩ | ⟨rfl, hJx3⟩)
          · gi_wp2
            go_roundw
            case rel => exact ⟨k + 1, by omega, by go_num, by rw [HTK.out]; exact hJ3, hbk.trans ((la.mono hwr).trans hk3)⟩
            case measure => simp [intOf]; omega
          · gi_wp2
            refine bodyPost_ret (results_none rfl _ _ _) rfl ?_
            exact ⟨⟨_, rfl⟩, .inr ⟨_, trivial, hJx3⟩⟩
        · obtain rfl : k = (ls p).length := by omega
          gi_wp2
          go_roundw
          case rel => exact ⟨p + 1, by omega, by go_num, by rw [partR_succ]; rw [List.take_length] at hJk; exact hJk, hbk⟩
          case measure => simp [intOf]; omega
    · obtain rfl : p = 256 := by omega
      gi_wp2
      go_end0
      exact ⟨⟨_, rfl⟩, .inl ⟨_, rfl, hJp⟩⟩

theorem all_gen (n : Nat) (hn : 1 ≤ n) (B bt n₀ base : Nat) (lim cnt trn : Int) (vs : List Value) (ls : Nat → List Rw) (w0 w : World) (hT : TBv base w0 bt lim cnt trn vs ls) (hn0 : n₀ = w0.heap.size) (hw : Later w0 w) (hBl : B < w.heap.size) (hB : w.cell? ⟨B, 0, none⟩ = some (.pointer (some ⟨bt, 3, none⟩))) :
    GenX Fence.wide n Try.prog 51 #[.pointer (some ⟨B, 0, none⟩)] encR (Below n₀) (XR ls) (fun xs => xs = allR ls) (fun _ => True) w := fun l J Jx W hW hJ hY h0 => by
  subst hn0
  have hwW : Later w0 W := hw.trans hW
  have hTW := hT.later hwW
  exact all1_in n hn l B bt w0.heap.size vs ls hT.1 J Jx hJ hY W ((hW.cell (p := ⟨B, 0, none⟩) hBl).trans hB) hwW.size (fun i hi => hTW.cell i hi) (fun i hi => (ownR_rd (hT.2.2.2.1 i hi)).below hwW) h0

set_option maxHeartbeats 2000000 in
theorem insert_one (sv : Value) (n : Nat) (f : Value) (w : World) (hn : n ≤ 1) : Calls Try.prog 57 #[sv, .int .i64 0, .int .i64 (n : Int), f] w fun e w' => (∃ v, e = .returned v) ∧ w' = w := by
  go_enter Try.func57, Try.ntmps57
  go_wp2_with fail
  go_loopw [8] (fun i wr => i = .int .i64 1 ∧ wr = w) (fun _ _ => 0)
  case atStart => exact ⟨rfl, rfl⟩
  case round =>
    obtain ⟨rfl, rfl⟩ := hrel
    have h1 : ¬ (1 : Int) < (n : Int) := by omega
    go_wp2_with fail
    go_end0
    exact ⟨⟨_, rfl⟩, rfl⟩

set_option maxHeartbeats 2000000 in
theorem pdq_one (sv : Value) (n : Nat) (lm : Int) (f : Value) (w : World) (hn : n ≤ 1) : Calls Try.prog 52 #[sv, .int .i64 0, .int .i64 (n : Int), .int .i64 lm, f] w fun e w' => (∃ v, e = .returned v) ∧ w' = w := by
  have h1 : (n : Int) ≤ 12 := by omega
  go_enter Try.func52, Try.ntmps52
  go_wp2_with fail
  go_loopw [1, 2] (fun a b wr => a = .int .i64 0 ∧ b = .int .i64 (n : Int) ∧ wr = w) (fun _ _ _ => 0)
  case atStart => exact ⟨rfl, rfl, rfl⟩
  case round =>
    obtain ⟨rfl, rfl, rfl⟩ := hrel
    go_wp2_with fail
    refine (insert_one sv n f wr hn).mono ?_
    rintro e w1 ⟨⟨v, rfl⟩, rfl⟩
    go_wp2_with fail
    refine bodyPost_ret (results_none rfl _ _ _) rfl ?_
    exact ⟨⟨_, rfl⟩, rfl⟩

set_option maxHeartbeats 2000000 in
theorem sort_one (a : Option Addr) (n cap : Nat) (f : Value) (w : World) (hn : n ≤ 1) : Calls Try.prog 40 #[.slice a n cap, f] w fun e w' => (∃ v, e = .returned v) ∧ w' = w := by
  have h1 : (n : Int) ≤ 12 := by omega
  go_enter Try.func40, Try.ntmps40
  go_wp2_with fail
  refine (len_few n w (by omega)).mono ?_
  rintro e w1 ⟨⟨v, rfl⟩, rfl⟩
  go_wp2_with fail
  refine (pdq_one (.slice a n cap) n v f w1 hn).mono ?_
  rintro e w2 ⟨⟨v2, rfl⟩, rfl⟩
  go_wp2_with fail
  go_end0
  exact ⟨⟨_, rfl⟩, rfl⟩
end Go.Proofs.Ytahphjindjlcpaa
